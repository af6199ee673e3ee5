"""The instance: a slab, the kinds of stones, and the calls on them."""

from slabsaw.codes import NO_FIT, NO_SUCH_KIND, OUT_OF_RANGE, TOO_MANY_KINDS
from slabsaw.limits import LONGEST_SIDE, MOST_KINDS, is_may_turn, is_side, is_value
from slabsaw.patterns import best_steps, fits
from slabsaw.steps import encoding_of, steps_of, stones_in
from slabsaw.stones import Kind, area_together, counts_by_kind, value_together
from slabsaw.worths import max_worth, max_worths


class Saw:
    """What the calls keep. Each call gives back its answer as a list; a refused one changes nothing."""

    def __init__(self):
        self.exists = False
        self.width = 0
        self.height = 0
        self.kinds = []

    def create(self, width, height):
        """Begins anew with a slab of this size and without kinds."""
        if not (is_side(width) and is_side(height)):
            return [OUT_OF_RANGE]
        self.exists = True
        self.width = width
        self.height = height
        self.kinds = []
        return [0]

    def add_kind(self, width, height, value, may_turn):
        """Appends a kind; answers its index."""
        if not (is_side(width) and is_side(height) and is_value(value) and is_may_turn(may_turn)):
            return [OUT_OF_RANGE]
        if len(self.kinds) >= MOST_KINDS:
            return [TOO_MANY_KINDS]
        self.kinds.append(Kind(width, height, value, may_turn))
        return [len(self.kinds) - 1]

    def remove_kind(self, k):
        """Removes kind k; answers how many kinds remain."""
        if not self.has_kind(k):
            return [NO_SUCH_KIND]
        self.kinds.pop(k)
        return [len(self.kinds)]

    def set_value(self, k, value):
        """Changes the value of kind k; answers the value that it had."""
        if not self.has_kind(k):
            return [NO_SUCH_KIND]
        if not is_value(value):
            return [OUT_OF_RANGE]
        kind = self.kinds[k]
        old_value = kind.value
        kind.value = value
        return [old_value]

    def set_may_turn(self, k, may_turn):
        """Changes whether kind k may be turned; answers what was told before."""
        if not self.has_kind(k):
            return [NO_SUCH_KIND]
        if not is_may_turn(may_turn):
            return [OUT_OF_RANGE]
        kind = self.kinds[k]
        old_may_turn = kind.may_turn
        kind.may_turn = may_turn
        return [old_may_turn]

    def set_slab(self, width, height):
        """Changes the slab's size and keeps the kinds; answers 0 and the size that it had."""
        if not (is_side(width) and is_side(height)):
            return [OUT_OF_RANGE]
        old_width = self.width
        old_height = self.height
        self.width = width
        self.height = height
        return [0, old_width, old_height]

    def max_value(self):
        """Answers the maximum value of the slab."""
        return [max_worth(self.kinds, self.width, self.height)]

    def max_value_of(self, x, y):
        """Answers the maximum value of a piece that is no wider and no higher than the slab."""
        if not (1 <= x <= self.width and 1 <= y <= self.height):
            return [OUT_OF_RANGE]
        return [max_worth(self.kinds, x, y)]

    def best_pattern(self):
        """Answers the maximum value of the slab and the encoding of its best pattern."""
        return self.max_value() + encoding_of(best_steps(self.kinds, self.width, self.height))

    def stone_counts(self):
        """Answers how many stones the best pattern of the slab has, and how many of each kind."""
        stones = self.best_stones()
        return [len(stones)] + counts_by_kind(self.kinds, stones)

    def waste_area(self):
        """Answers how much of the slab is no stone in its best pattern."""
        return [self.width * self.height - area_together(self.kinds, self.best_stones())]

    def check_pattern(self, pattern):
        """Answers the value of this encoded pattern for the slab, and how many stones of each kind it has."""
        # The whole list is read ahead of any look at the slab: a wrong form anywhere comes before what doesn't fit.
        steps = steps_of(pattern)
        if steps is None:
            return [OUT_OF_RANGE]
        if not fits(self.kinds, steps, self.width, self.height):
            return [NO_FIT]
        stones = stones_in(steps)
        return [value_together(self.kinds, stones)] + counts_by_kind(self.kinds, stones)

    def values_for_height(self, y):
        """Answers the slab's width and the maximum value of a piece of height y for each width up to it."""
        if not 1 <= y <= self.height:
            return [OUT_OF_RANGE]
        worths = max_worths(self.kinds, self.width, y)
        return [self.width] + [worths[(x, y)] for x in range(1, self.width + 1)]

    def max_value_without(self, k):
        """Answers what the slab's maximum value would be if kind k were removed."""
        if not self.has_kind(k):
            return [NO_SUCH_KIND]
        others = [kind for j, kind in enumerate(self.kinds) if j != k]
        return [max_worth(others, self.width, self.height)]

    def max_value_if_value(self, k, value):
        """Answers what the slab's maximum value would be if kind k had this value."""
        if not self.has_kind(k):
            return [NO_SUCH_KIND]
        if not is_value(value):
            return [OUT_OF_RANGE]
        kinds = list(self.kinds)
        kinds[k] = kinds[k].with_value(value)
        return [max_worth(kinds, self.width, self.height)]

    def min_height(self, value):
        """Answers the smallest height at which a slab as wide as this one is worth at least this value."""
        if value < 0:
            return [OUT_OF_RANGE]
        worths = max_worths(self.kinds, self.width, LONGEST_SIDE)
        for height in range(1, LONGEST_SIDE + 1):
            if worths[(self.width, height)] >= value:
                return [height]
        return [NO_FIT]

    def describe(self):
        """Answers how many kinds there are, the slab's size, and all that makes each kind."""
        answer = [len(self.kinds), self.width, self.height]
        for kind in self.kinds:
            answer.extend([kind.width, kind.height, kind.value, kind.may_turn])
        return answer

    def best_stones(self):
        """The numbers of the kinds of the stones in the slab's best pattern."""
        return stones_in(best_steps(self.kinds, self.width, self.height))

    def has_kind(self, k):
        """Whether there is a kind k."""
        return 0 <= k < len(self.kinds)
