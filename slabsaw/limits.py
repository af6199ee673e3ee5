"""The ranges that sides, values and marks must lie in."""

LONGEST_SIDE = 9
HIGHEST_VALUE = 999
MOST_KINDS = 5


def is_side(number):
    """Whether this may be a side of a slab or of a stone."""
    return 1 <= number <= LONGEST_SIDE


def is_value(number):
    """Whether this may be the value of a stone."""
    return 0 <= number <= HIGHEST_VALUE


def is_may_turn(number):
    """Whether this may be the mark that tells if a stone may be turned."""
    return 0 <= number <= 1
