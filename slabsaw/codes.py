"""The numbers that are answered when a call is refused."""

NO_INSTANCE = -11
NO_SUCH_KIND = -2
OUT_OF_RANGE = -22
TOO_MANY_KINDS = -28
NO_FIT = -33
