"""Patterns of a piece: the best one, and whether a given one fits."""

from slabsaw.steps import HORIZONTAL_CUT, STONE, VERTICAL_CUT, WASTE, parts_behind
from slabsaw.worths import horizontal_cut_worth, max_worths, vertical_cut_worth


def fits(kinds, steps, width, height):
    """Whether the pattern with these steps is one for a piece of this size."""
    pieces = [(width, height)]
    for step in steps:
        piece = pieces.pop()
        if not step_fits(kinds, step, piece[0], piece[1]):
            return False
        pieces.extend(parts_behind(step, piece[0], piece[1]))
    return True


def step_fits(kinds, step, x, y):
    """Whether the piece can be thrown away, be the stone or be cut as the step tells, whatever becomes of its parts."""
    if step[0] == STONE:
        k = step[1]
        return k < len(kinds) and kinds[k].matches(x, y)
    if step[0] == VERTICAL_CUT:
        return step[1] < x
    if step[0] == HORIZONTAL_CUT:
        return step[1] < y
    return True


def best_steps(kinds, width, height):
    """The steps of the best pattern of a piece of this size."""
    worths = max_worths(kinds, width, height)
    steps = []
    pieces = [(width, height)]
    while len(pieces) > 0:
        piece = pieces.pop()
        step = best_step(kinds, worths, piece[0], piece[1])
        steps.append(step)
        pieces.extend(parts_behind(step, piece[0], piece[1]))
    return steps


def best_step(kinds, worths, x, y):
    """The first step of the piece's best pattern."""
    if worths[(x, y)] == 0:
        return [WASTE]
    k = first_best_kind(kinds, worths, x, y)
    if k is not None:
        return [STONE, k]
    c = first_best_vertical_cut(worths, x, y)
    if c is not None:
        return [VERTICAL_CUT, c]
    return [HORIZONTAL_CUT, first_best_horizontal_cut(worths, x, y)]


def first_best_kind(kinds, worths, x, y):
    """The smallest number of a kind that the piece matches and that has the piece's worth, or None."""
    for k, kind in enumerate(kinds):
        if kind.matches(x, y) and kind.value == worths[(x, y)]:
            return k
    return None


def first_best_vertical_cut(worths, x, y):
    """The smallest left width at which a cut keeps the piece's worth, or None."""
    for c in range(1, x):
        if vertical_cut_worth(worths, x, y, c) == worths[(x, y)]:
            return c
    return None


def first_best_horizontal_cut(worths, x, y):
    """The smallest upper height at which a cut keeps the piece's worth, or None."""
    for c in range(1, y):
        if horizontal_cut_worth(worths, x, y, c) == worths[(x, y)]:
            return c
    return None
