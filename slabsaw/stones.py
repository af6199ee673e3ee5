"""Kinds of stones, and what several stones come to."""


class Kind:
    """The size and the value of the stones of one kind, and whether they may be turned (1) or not (0)."""

    def __init__(self, width, height, value, may_turn):
        self.width = width
        self.height = height
        self.value = value
        self.may_turn = may_turn

    def matches(self, x, y):
        """Whether a piece of width x and height y is a stone of this kind."""
        if x == self.width and y == self.height:
            return True
        return self.may_turn == 1 and x == self.height and y == self.width

    def with_value(self, value):
        """A kind of its own that differs from this one in its value alone."""
        return Kind(self.width, self.height, value, self.may_turn)


def counts_by_kind(kinds, stones):
    """For each kind, how many of these stones, told by the numbers of their kinds, are of it."""
    return [stones.count(k) for k in range(len(kinds))]


def value_together(kinds, stones):
    """The values of these stones, told by the numbers of their kinds, added up."""
    return sum([kinds[k].value for k in stones])


def area_together(kinds, stones):
    """The areas of these stones, told by the numbers of their kinds, added up."""
    return sum([kinds[k].width * kinds[k].height for k in stones])
