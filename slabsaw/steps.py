"""Patterns step by step: a step is waste, a stone or a cut ahead of its parts, just as it stands in the encoding."""

WASTE = 0
STONE = 1
VERTICAL_CUT = 2
HORIZONTAL_CUT = 3


def is_cut(step):
    """Whether the patterns of two parts follow this step."""
    return step[0] == VERTICAL_CUT or step[0] == HORIZONTAL_CUT


def parts_behind(step, x, y):
    """The parts of a piece behind this step; the first part is the last in the list, for there it is taken off."""
    if step[0] == VERTICAL_CUT:
        c = step[1]
        return [(x - c, y), (c, y)]
    if step[0] == HORIZONTAL_CUT:
        c = step[1]
        return [(x, y - c), (x, c)]
    return []


def stones_in(steps):
    """The numbers of the kinds of a pattern's stones, as often as there are stones."""
    return [step[1] for step in steps if step[0] == STONE]


def encoding_of(steps):
    """The encoding of the pattern with these steps."""
    encoding = []
    for step in steps:
        encoding.extend(step)
    return encoding


def steps_of(encoding):
    """The steps of the one pattern that the list encodes, or None if it is not the encoding of a pattern."""
    steps = []
    place = 0
    # How many patterns are still to come: the whole one at first, two more behind each cut.
    awaited = 1
    while awaited > 0:
        step = step_at(encoding, place)
        if step is None:
            return None
        steps.append(step)
        place += len(step)
        awaited -= 1
        if is_cut(step):
            awaited += 2
    if place < len(encoding):
        return None
    return steps


def step_at(encoding, place):
    """The step that begins at this place of the list, or None if there is none."""
    step = encoding[place:place + 2]
    if len(step) > 0 and step[0] == WASTE:
        return [WASTE]
    if len(step) < 2:
        return None
    if step[0] == STONE and step[1] >= 0:
        return step
    if is_cut(step) and step[1] >= 1:
        return step
    return None
