"""Best patterns and their encoding."""

from slabsaw.worths import horizontal_cut_worth, max_worths, vertical_cut_worth

WASTE = 0
STONE = 1
VERTICAL_CUT = 2
HORIZONTAL_CUT = 3


def best_encoding(kinds, width, height):
    """The encoding of the best pattern of a piece of this size."""
    worths = max_worths(kinds, width, height)
    encoding = []
    pieces = [(width, height)]
    while len(pieces) > 0:
        piece = pieces.pop()
        x = piece[0]
        y = piece[1]
        step = best_step(kinds, worths, x, y)
        encoding.extend(step)
        # The last piece in the list is the next one, and the first part is encoded ahead of the second.
        for part in reversed(parts_behind(step, x, y)):
            pieces.append(part)
    return encoding


def best_step(kinds, worths, x, y):
    """The beginning of the best pattern's encoding, up to where the parts of a cut begin."""
    if worths[(x, y)] == 0:
        return [WASTE]
    k = first_best_kind(kinds, worths, x, y)
    if k is not None:
        return [STONE, k]
    c = first_best_vertical_cut(worths, x, y)
    if c is not None:
        return [VERTICAL_CUT, c]
    return [HORIZONTAL_CUT, first_best_horizontal_cut(worths, x, y)]


def parts_behind(step, x, y):
    """The two parts of a piece behind a cut; none behind waste or a stone."""
    if step[0] == VERTICAL_CUT:
        c = step[1]
        return [(c, y), (x - c, y)]
    if step[0] == HORIZONTAL_CUT:
        c = step[1]
        return [(x, c), (x, y - c)]
    return []


def first_best_kind(kinds, worths, x, y):
    """The smallest number of a kind that the piece matches and that has the piece's worth, or None."""
    for k, kind in enumerate(kinds):
        if kind.matches(x, y) and kind.value == worths[(x, y)]:
            return k
    return None


def first_best_vertical_cut(worths, x, y):
    """The smallest left width at which a cut keeps the piece's worth, or None."""
    for c in range(1, x):
        if vertical_cut_worth(worths, x, y, c) == worths[(x, y)]:
            return c
    return None


def first_best_horizontal_cut(worths, x, y):
    """The smallest upper height at which a cut keeps the piece's worth, or None."""
    for c in range(1, y):
        if horizontal_cut_worth(worths, x, y, c) == worths[(x, y)]:
            return c
    return None
