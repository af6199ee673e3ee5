"""The instance: a slab, the kinds of stones, and the calls on them."""

from slabsaw.codes import NO_SUCH_KIND, OUT_OF_RANGE, TOO_MANY_KINDS
from slabsaw.limits import MOST_KINDS, is_may_turn, is_side, is_value
from slabsaw.patterns import best_encoding
from slabsaw.stones import Kind
from slabsaw.worths import max_worth


class Saw:
    """What the calls keep. Each call gives back its answer as a list; a refused one changes nothing."""

    def __init__(self):
        self.exists = False
        self.width = 0
        self.height = 0
        self.kinds = []

    def create(self, width, height):
        """Begins anew with a slab of this size and without kinds."""
        if not (is_side(width) and is_side(height)):
            return [OUT_OF_RANGE]
        self.exists = True
        self.width = width
        self.height = height
        self.kinds = []
        return [0]

    def add_kind(self, width, height, value, may_turn):
        """Appends a kind; answers its index."""
        if not (is_side(width) and is_side(height) and is_value(value) and is_may_turn(may_turn)):
            return [OUT_OF_RANGE]
        if len(self.kinds) >= MOST_KINDS:
            return [TOO_MANY_KINDS]
        self.kinds.append(Kind(width, height, value, may_turn))
        return [len(self.kinds) - 1]

    def remove_kind(self, k):
        """Removes kind k; answers how many kinds remain."""
        if not self.has_kind(k):
            return [NO_SUCH_KIND]
        self.kinds.pop(k)
        return [len(self.kinds)]

    def set_value(self, k, value):
        """Changes the value of kind k; answers the value that it had."""
        if not self.has_kind(k):
            return [NO_SUCH_KIND]
        if not is_value(value):
            return [OUT_OF_RANGE]
        kind = self.kinds[k]
        old_value = kind.value
        kind.value = value
        return [old_value]

    def set_may_turn(self, k, may_turn):
        """Changes whether kind k may be turned; answers what was told before."""
        if not self.has_kind(k):
            return [NO_SUCH_KIND]
        if not is_may_turn(may_turn):
            return [OUT_OF_RANGE]
        kind = self.kinds[k]
        old_may_turn = kind.may_turn
        kind.may_turn = may_turn
        return [old_may_turn]

    def set_slab(self, width, height):
        """Changes the slab's size and keeps the kinds; answers 0 and the size that it had."""
        if not (is_side(width) and is_side(height)):
            return [OUT_OF_RANGE]
        old_width = self.width
        old_height = self.height
        self.width = width
        self.height = height
        return [0, old_width, old_height]

    def max_value(self):
        """Answers the maximum value of the slab."""
        return [max_worth(self.kinds, self.width, self.height)]

    def max_value_of(self, x, y):
        """Answers the maximum value of a piece that is no wider and no higher than the slab."""
        if not (1 <= x <= self.width and 1 <= y <= self.height):
            return [OUT_OF_RANGE]
        return [max_worth(self.kinds, x, y)]

    def best_pattern(self):
        """Answers the maximum value of the slab and the encoding of its best pattern."""
        return self.max_value() + best_encoding(self.kinds, self.width, self.height)

    def has_kind(self, k):
        """Whether there is a kind k."""
        return 0 <= k < len(self.kinds)
