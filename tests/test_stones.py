"""What stone_counts and waste_area tell of the best pattern."""

import unittest

from asking import (
    ask, create, last, remove_kind, set_may_turn, set_slab, set_value, stone_counts, waste_area, with_kinds,
)

KINDS = [(2, 3, 10, 0), (2, 1, 3, 1)]


class Stones(unittest.TestCase):
    def check(self, calls, counts, area):
        """The counts by kind and the waste that there are behind these calls."""
        answered = ask(*calls, stone_counts(), waste_area())
        self.assertEqual(answered[-2:], [[sum(counts)] + counts, [area]], calls)

    def test_no_kinds(self):
        for width in range(1, 10):
            for height in range(1, 10):
                self.check([create(width, height)], [], width * height)

    def test_kinds_that_are_not_used(self):
        self.check(with_kinds(3, 3, [(4, 1, 9, 1), (9, 9, 999, 0)]), [0, 0], 9)
        self.check(with_kinds(3, 3, [(4, 1, 9, 1), (3, 3, 5, 0), (1, 1, 0, 0)]), [0, 1, 0], 0)
        self.check(with_kinds(2, 1, [(1, 2, 5, 0)]), [0], 2)
        self.check(with_kinds(4, 4, [(1, 1, 1, 0), (2, 2, 5, 0)]), [0, 4], 0)

    def test_stones_without_value_are_waste(self):
        self.check(with_kinds(4, 3, [(1, 1, 0, 0), (4, 3, 0, 0)]), [0, 0], 12)
        self.check(with_kinds(3, 1, [(1, 1, 0, 0), (2, 1, 4, 0)]), [0, 1], 1)

    def test_several_stones_of_one_kind(self):
        self.check(with_kinds(1, 1, [(1, 1, 1, 0)]), [1], 0)
        self.check(with_kinds(9, 9, [(1, 1, 999, 0)]), [81], 0)
        self.check(with_kinds(9, 9, [(2, 2, 1, 0)]), [16], 17)
        self.check(with_kinds(9, 9, [(5, 5, 7, 1)]), [1], 56)
        self.check(with_kinds(7, 2, [(3, 2, 7, 0)]), [2], 2)

    def test_several_kinds(self):
        self.check(with_kinds(5, 3, KINDS), [2, 1], 1)
        self.check(with_kinds(9, 2, [(5, 2, 50, 0), (4, 2, 30, 0)]), [1, 1], 0)
        self.check(with_kinds(3, 3, [(3, 1, 9, 0), (1, 2, 7, 0)]), [1, 3], 0)
        five = [(1, 1, 1, 0), (2, 1, 9, 0), (3, 1, 30, 0), (4, 1, 99, 0), (5, 1, 300, 0)]
        self.check(with_kinds(9, 1, five), [0, 0, 0, 1, 1], 0)
        self.check(with_kinds(8, 1, five), [0, 0, 1, 0, 1], 0)

    def test_stones_that_are_turned(self):
        self.check(with_kinds(4, 3, [(3, 2, 6, 1)]), [2], 0)
        self.check(with_kinds(4, 3, [(3, 2, 6, 0)]), [1], 6)
        self.check(with_kinds(5, 5, [(3, 2, 1, 1)]), [3], 7)
        self.check(with_kinds(9, 2, [(1, 9, 5, 1), (2, 9, 5, 0)]), [2, 0], 0)

    def test_the_kind_with_the_smallest_number_is_counted(self):
        self.check(with_kinds(2, 1, [(1, 1, 5, 0), (1, 1, 5, 1)]), [2, 0], 0)
        self.check(with_kinds(2, 1, [(1, 1, 5, 0), (2, 1, 10, 0)]), [0, 1], 0)

    def test_follow_the_changes(self):
        calls = with_kinds(5, 3, KINDS)
        self.check(calls + [remove_kind(0)], [7], 1)
        self.check(calls + [remove_kind(1)], [2], 3)
        self.check(calls + [set_value(0, 8)], [0, 7], 1)
        self.check(calls + [set_value(1, 0)], [2, 0], 3)
        self.check(calls + [set_may_turn(1, 0)], [2, 0], 3)
        self.check(calls + [set_slab(3, 2)], [0, 3], 0)
        self.check(calls + [set_slab(2, 3)], [1, 0], 0)
        self.check(calls + [create(5, 3)], [], 15)

    def test_one_number_for_each_kind(self):
        for count in range(6):
            calls = with_kinds(4, 4, [(3, 3, 5, 0)] * count)
            answer = last(*calls, stone_counts())
            self.assertEqual(answer, [min(count, 1)] + [1, 0, 0, 0, 0][:count])


if __name__ == "__main__":
    unittest.main()
