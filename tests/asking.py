"""Calls by their names, and the program's answers to them, one list a call."""

from slabsaw.cuts import answers

NO_INSTANCE = [-11]
NO_SUCH_KIND = [-2]
OUT_OF_RANGE = [-22]
TOO_MANY_KINDS = [-28]

LOWEST = -2147483648
HIGHEST = 2147483647
MOST_CALLS = 60

WRONG_SIDES = (LOWEST, -1, 0, 10, 1000, HIGHEST)
WRONG_VALUES = (LOWEST, -1, 1000, HIGHEST)
WRONG_MAY_TURNS = (LOWEST, -1, 2, HIGHEST)


def create(width, height):
    return (0, width, height)


def add_kind(width, height, value, may_turn):
    return (1, width, height, value, may_turn)


def remove_kind(k):
    return (2, k)


def set_value(k, value):
    return (3, k, value)


def set_may_turn(k, may_turn):
    return (4, k, may_turn)


def set_slab(width, height):
    return (5, width, height)


def max_value():
    return (6,)


def max_value_of(x, y):
    return (7, x, y)


def best_pattern():
    return (8,)


def flat(calls):
    return [number for call in calls for number in call]


def split(answered):
    """The answers, one list a call; fails if the counts don't lead just to the end."""
    parts = []
    place = 0
    while place < len(answered):
        end = place + 1 + answered[place]
        if end <= place + 1 or end > len(answered):
            raise AssertionError(f"a count that can't be: {answered[place]} at {place} in {answered}")
        parts.append(answered[place + 1:end])
        place = end
    return parts


def ask(*calls):
    """The answers to these calls, one list a call."""
    if len(calls) > MOST_CALLS:
        raise AssertionError("a test hands in more calls than the document allows")
    parts = split(answers(flat(calls)))
    if len(parts) != len(calls):
        raise AssertionError(f"{len(calls)} calls, {len(parts)} answers")
    return parts


def last(*calls):
    """The answer to the last of these calls."""
    return ask(*calls)[-1]


def with_kinds(width, height, kinds):
    """The calls that make a slab of this size with these kinds."""
    return [create(width, height)] + [add_kind(*kind) for kind in kinds]


def best_of(width, height, kinds):
    """What best_pattern answers for a slab of this size with these kinds."""
    return last(*with_kinds(width, height, kinds), best_pattern())


def max_of(width, height, kinds):
    """What max_value answers for a slab of this size with these kinds."""
    return last(*with_kinds(width, height, kinds), max_value())


def worths_of(kinds, width, height):
    """What max_value_of answers for each piece (x, y) of a slab of this size with these kinds."""
    beginning = with_kinds(width, height, kinds)
    worths = {}
    for x in range(1, width + 1):
        asked = [max_value_of(x, y) for y in range(1, height + 1)]
        parts = ask(*beginning, *asked)[len(beginning):]
        for y, part in enumerate(parts, start=1):
            worths[(x, y)] = part[0]
    return worths


def count_after(calls):
    """How many kinds there are behind these calls."""
    answer = last(*calls, remove_kind(0))
    return 0 if answer == NO_SUCH_KIND else answer[0] + 1


def kind_after(calls, k, count):
    """Kind k behind these calls: width, height, value, may_turn."""
    value = last(*calls, set_value(k, 0))[0]
    may_turn = last(*calls, set_may_turn(k, 0))[0]
    # Once k alone is worth something, a piece is worth something as soon as it is as wide and as high as k.
    alone = [set_slab(9, 9), set_may_turn(k, 0)] + [set_value(j, 1 if j == k else 0) for j in range(count)]
    widths = [max_value_of(x, 9) for x in range(1, 10)]
    heights = [max_value_of(9, y) for y in range(1, 10)]
    worths = [part[0] for part in ask(*calls, *alone, *widths, *heights)[-18:]]
    width = 1 + worths[:9].count(0)
    height = 1 + worths[9:].count(0)
    return (width, height, value, may_turn)


def state_after(*calls):
    """The slab's width and height and the list of kinds behind these calls, found out by more calls."""
    count = count_after(calls)
    slab = last(*calls, set_slab(1, 1))
    return (slab[1], slab[2], [kind_after(calls, k, count) for k in range(count)])
