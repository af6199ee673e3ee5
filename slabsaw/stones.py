"""A kind of stones."""


class Kind:
    """The size and the value of the stones of one kind, and whether they may be turned (1) or not (0)."""

    def __init__(self, width, height, value, may_turn):
        self.width = width
        self.height = height
        self.value = value
        self.may_turn = may_turn

    def matches(self, x, y):
        """Whether a piece of width x and height y is a stone of this kind."""
        if x == self.width and y == self.height:
            return True
        return self.may_turn == 1 and x == self.height and y == self.width
