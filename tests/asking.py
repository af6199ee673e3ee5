"""Calls by their names, and the program's answers to them, one list a call."""

from slabsaw.cuts import answers

NO_INSTANCE = [-11]
NO_SUCH_KIND = [-2]
OUT_OF_RANGE = [-22]
TOO_MANY_KINDS = [-28]
NO_FIT = [-33]

LOWEST = -2147483648
HIGHEST = 2147483647
MOST_CALLS = 60
LONGEST_ROW = 70

WRONG_SIDES = (LOWEST, -1, 0, 10, 1000, HIGHEST)
WRONG_VALUES = (LOWEST, -1, 1000, HIGHEST)
WRONG_MAY_TURNS = (LOWEST, -1, 2, HIGHEST)


def create(width, height):
    return (0, width, height)


def add_kind(width, height, value, may_turn):
    return (1, width, height, value, may_turn)


def remove_kind(k):
    return (2, k)


def set_value(k, value):
    return (3, k, value)


def set_may_turn(k, may_turn):
    return (4, k, may_turn)


def set_slab(width, height):
    return (5, width, height)


def max_value():
    return (6,)


def max_value_of(x, y):
    return (7, x, y)


def best_pattern():
    return (8,)


def stone_counts():
    return (9,)


def waste_area():
    return (10,)


def check_pattern(pattern):
    if len(pattern) > LONGEST_ROW:
        raise AssertionError("a test hands in a longer row than the document allows")
    return (11, len(pattern), *pattern)


def values_for_height(y):
    return (12, y)


def max_value_without(k):
    return (13, k)


def max_value_if_value(k, value):
    return (14, k, value)


def min_height(value):
    return (15, value)


def describe():
    return (16,)


def flat(calls):
    return [number for call in calls for number in call]


def split(answered):
    """The answers, one list a call; fails if the counts don't lead just to the end."""
    parts = []
    place = 0
    while place < len(answered):
        end = place + 1 + answered[place]
        if end <= place + 1 or end > len(answered):
            raise AssertionError(f"a count that can't be: {answered[place]} at {place} in {answered}")
        parts.append(answered[place + 1:end])
        place = end
    return parts


def ask(*calls):
    """The answers to these calls, one list a call."""
    if len(calls) > MOST_CALLS:
        raise AssertionError("a test hands in more calls than the document allows")
    parts = split(answers(flat(calls)))
    if len(parts) != len(calls):
        raise AssertionError(f"{len(calls)} calls, {len(parts)} answers")
    return parts


def last(*calls):
    """The answer to the last of these calls."""
    return ask(*calls)[-1]


def with_kinds(width, height, kinds):
    """The calls that make a slab of this size with these kinds."""
    return [create(width, height)] + [add_kind(*kind) for kind in kinds]


def best_of(width, height, kinds):
    """What best_pattern answers for a slab of this size with these kinds."""
    return last(*with_kinds(width, height, kinds), best_pattern())


def max_of(width, height, kinds):
    """What max_value answers for a slab of this size with these kinds."""
    return last(*with_kinds(width, height, kinds), max_value())


def worths_of(kinds, width, height):
    """What max_value_of answers for each piece (x, y) of a slab of this size with these kinds."""
    beginning = with_kinds(width, height, kinds)
    worths = {}
    for x in range(1, width + 1):
        asked = [max_value_of(x, y) for y in range(1, height + 1)]
        parts = ask(*beginning, *asked)[len(beginning):]
        for y, part in enumerate(parts, start=1):
            worths[(x, y)] = part[0]
    return worths


def state_after(*calls):
    """The slab's width and height and the list of kinds behind these calls, as describe tells them."""
    told = last(*calls, describe())
    kinds = [tuple(told[place:place + 4]) for place in range(3, len(told), 4)]
    if len(kinds) != told[0] or (kinds and len(kinds[-1]) != 4):
        raise AssertionError(f"not {told[0]} kinds: {told}")
    return (told[1], told[2], kinds)
