"""What pieces are worth: their maximum values."""


def max_worth(kinds, width, height):
    """The maximum value of a piece of this size."""
    return max_worths(kinds, width, height)[(width, height)]


def max_worths(kinds, width, height):
    """The maximum value of each piece (x, y) that is no wider and no higher than told."""
    worths = {}
    # Both parts of a cut are narrower or lower than the piece, so in this order they are there before it.
    for x in range(1, width + 1):
        for y in range(1, height + 1):
            worths[(x, y)] = max(stone_worth(kinds, x, y), cut_worth(worths, x, y))
    return worths


def stone_worth(kinds, x, y):
    """The greatest value of a kind that the piece matches; 0, as for waste, if there is none."""
    greatest = 0
    for kind in kinds:
        if kind.matches(x, y):
            greatest = max(greatest, kind.value)
    return greatest


def cut_worth(worths, x, y):
    """The greatest worth of the two parts of a cut of the piece; 0, as for waste, if it can't be cut."""
    greatest = 0
    for c in range(1, x):
        greatest = max(greatest, vertical_cut_worth(worths, x, y, c))
    for c in range(1, y):
        greatest = max(greatest, horizontal_cut_worth(worths, x, y, c))
    return greatest


def vertical_cut_worth(worths, x, y, c):
    """What the left part, of width c, and the right part are worth together."""
    return worths[(c, y)] + worths[(x - c, y)]


def horizontal_cut_worth(worths, x, y, c):
    """What the upper part, of height c, and the lower part are worth together."""
    return worths[(x, c)] + worths[(x, y - c)]
