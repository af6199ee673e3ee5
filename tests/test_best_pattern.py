"""The four rules of the best pattern, each at inputs where it decides."""

import unittest

from asking import best_of

WASTE = [0]


class RuleOne(unittest.TestCase):
    def test_no_kinds(self):
        for width, height in ((1, 1), (9, 1), (1, 9), (5, 3), (9, 9)):
            self.assertEqual(best_of(width, height, []), [0] + WASTE)

    def test_waste_ahead_of_a_stone_of_value_0(self):
        self.assertEqual(best_of(1, 1, [(1, 1, 0, 0)]), [0] + WASTE)
        self.assertEqual(best_of(9, 9, [(9, 9, 0, 1)]), [0] + WASTE)

    def test_waste_ahead_of_cuts_of_value_0(self):
        self.assertEqual(best_of(2, 2, [(1, 1, 0, 0), (1, 2, 0, 1)]), [0] + WASTE)

    def test_kinds_larger_than_the_slab(self):
        self.assertEqual(best_of(2, 2, [(3, 1, 9, 1), (1, 3, 9, 1), (9, 9, 999, 0)]), [0] + WASTE)

    def test_parts_of_value_0(self):
        self.assertEqual(best_of(2, 1, [(1, 1, 0, 0), (2, 1, 4, 0)]), [4, 1, 1])
        self.assertEqual(best_of(3, 1, [(1, 1, 0, 0), (2, 1, 4, 0)]), [4, 2, 1, 0, 1, 1])


class RuleTwo(unittest.TestCase):
    def test_a_stone_ahead_of_cuts_of_the_same_value(self):
        self.assertEqual(best_of(2, 1, [(1, 1, 5, 0), (2, 1, 10, 0)]), [10, 1, 1])
        self.assertEqual(best_of(1, 2, [(1, 1, 5, 0), (1, 2, 10, 0)]), [10, 1, 1])

    def test_no_stone_that_is_worth_less_than_cuts(self):
        self.assertEqual(best_of(2, 1, [(2, 1, 9, 0), (1, 1, 5, 0)]), [10, 2, 1, 1, 1, 1, 1])

    def test_the_smallest_number_among_equals(self):
        self.assertEqual(best_of(2, 3, [(2, 3, 7, 0), (2, 3, 7, 1), (3, 2, 7, 1)]), [7, 1, 0])
        self.assertEqual(best_of(2, 3, [(2, 3, 6, 0), (3, 2, 7, 0), (3, 2, 7, 1), (2, 3, 7, 0)]), [7, 1, 2])
        self.assertEqual(best_of(1, 1, [(1, 1, 1, 0)] * 4 + [(1, 1, 2, 0)]), [2, 1, 4])

    def test_turned_and_not(self):
        self.assertEqual(best_of(3, 2, [(2, 3, 7, 0)]), [0] + WASTE)
        self.assertEqual(best_of(3, 2, [(2, 3, 7, 1)]), [7, 1, 0])
        self.assertEqual(best_of(2, 3, [(2, 3, 7, 0)]), [7, 1, 0])
        self.assertEqual(best_of(2, 3, [(2, 3, 7, 1)]), [7, 1, 0])
        self.assertEqual(best_of(9, 1, [(1, 9, 999, 1)]), [999, 1, 0])
        self.assertEqual(best_of(1, 9, [(1, 9, 999, 0)]), [999, 1, 0])


class RuleThree(unittest.TestCase):
    def test_a_vertical_cut_ahead_of_a_horizontal_one(self):
        column = [3, 1, 1, 0, 1, 0]
        self.assertEqual(best_of(2, 2, [(1, 1, 1, 0)]), [4, 2, 1] + column + column)

    def test_the_smallest_left_width(self):
        self.assertEqual(best_of(3, 1, [(1, 1, 1, 0)]), [3, 2, 1, 1, 0, 2, 1, 1, 0, 1, 0])
        self.assertEqual(best_of(5, 1, [(3, 1, 7, 0), (2, 1, 4, 0)]), [11, 2, 2, 1, 1, 1, 0])
        self.assertEqual(best_of(9, 1, [(4, 1, 8, 0), (5, 1, 9, 0)]), [17, 2, 4, 1, 0, 1, 1])

    def test_waste_at_the_left(self):
        self.assertEqual(best_of(3, 1, [(2, 1, 5, 0)]), [5, 2, 1] + WASTE + [1, 0])
        self.assertEqual(best_of(9, 1, [(2, 1, 5, 0), (6, 1, 99, 0)])[:5], [104, 2, 1, 0, 2])

    def test_the_smallest_left_width_that_keeps_the_value(self):
        # Of width 1 to 3 the left part would break the stone of width 5 or that of width 4.
        self.assertEqual(best_of(9, 2, [(5, 2, 50, 0), (4, 2, 30, 0)]), [80, 2, 4, 1, 1, 1, 0])

    def test_both_parts_are_cut_by_their_best_patterns(self):
        kinds = [(1, 1, 2, 0), (2, 1, 4, 0), (1, 2, 4, 0)]
        self.assertEqual(best_of(3, 2, kinds), [12, 2, 1, 1, 2, 2, 1, 1, 2, 1, 2])
        self.assertEqual(best_of(2, 2, kinds), [8, 2, 1, 1, 2, 1, 2])

    def test_turned_stones(self):
        self.assertEqual(best_of(4, 3, [(3, 2, 6, 1)]), [12, 2, 2, 1, 0, 1, 0])


class RuleFour(unittest.TestCase):
    def test_no_vertical_cut_keeps_the_value(self):
        self.assertEqual(best_of(2, 3, [(2, 2, 5, 0)]), [5, 3, 1] + WASTE + [1, 0])
        self.assertEqual(best_of(1, 3, [(1, 2, 5, 0)]), [5, 3, 1] + WASTE + [1, 0])

    def test_the_smallest_upper_height(self):
        self.assertEqual(best_of(1, 3, [(1, 1, 1, 0)]), [3, 3, 1, 1, 0, 3, 1, 1, 0, 1, 0])
        self.assertEqual(best_of(2, 5, [(2, 3, 7, 0), (2, 2, 4, 0)]), [11, 3, 2, 1, 1, 1, 0])
        self.assertEqual(best_of(9, 9, [(9, 4, 8, 0), (9, 5, 9, 0)]), [17, 3, 4, 1, 0, 1, 1])

    def test_both_parts_are_cut_by_their_best_patterns(self):
        kinds = [(4, 1, 9, 0), (2, 2, 5, 0)]
        self.assertEqual(best_of(4, 3, kinds), [27, 3, 1, 1, 0, 3, 1, 1, 0, 1, 0])
        kinds = [(3, 1, 9, 0), (1, 2, 4, 0)]
        self.assertEqual(best_of(3, 3, kinds), [27, 3, 1, 1, 0, 3, 1, 1, 0, 1, 0])
        kinds = [(3, 1, 9, 0), (1, 2, 7, 0)]
        self.assertEqual(best_of(3, 3, kinds), [30, 3, 1, 1, 0, 2, 1, 1, 1, 2, 1, 1, 1, 1, 1])

    def test_turned_stones(self):
        self.assertEqual(best_of(3, 4, [(3, 2, 6, 1)]), [12, 3, 2, 1, 0, 1, 0])


class Whole(unittest.TestCase):
    def test_the_longest_pattern(self):
        answer = best_of(9, 9, [(1, 1, 999, 0)])
        column = [3, 1, 1, 0] * 8 + [1, 0]
        self.assertEqual(answer, [81 * 999] + ([2, 1] + column) * 8 + column)


if __name__ == "__main__":
    unittest.main()
