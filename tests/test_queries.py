"""The calls that only ask: max_value, max_value_of; what best_pattern answers is in test_best_pattern.py."""

import unittest

from asking import (
    HIGHEST, LOWEST, OUT_OF_RANGE, WRONG_SIDES, ask, create, last, max_of, max_value, max_value_of, set_slab,
    set_value, with_kinds, worths_of,
)

KINDS = [(2, 3, 10, 0), (2, 1, 3, 1)]


class MaxValue(unittest.TestCase):
    def test_no_kinds(self):
        for width, height in ((1, 1), (9, 1), (1, 9), (9, 9)):
            self.assertEqual(max_of(width, height, []), [0])

    def test_one_stone(self):
        self.assertEqual(max_of(1, 1, [(1, 1, 999, 0)]), [999])
        self.assertEqual(max_of(9, 9, [(9, 9, 999, 1)]), [999])
        self.assertEqual(max_of(9, 9, [(9, 9, 0, 1)]), [0])

    def test_many_stones(self):
        self.assertEqual(max_of(9, 9, [(1, 1, 999, 0)]), [81 * 999])
        self.assertEqual(max_of(9, 9, [(2, 2, 1, 0)]), [16])
        self.assertEqual(max_of(9, 9, [(2, 1, 1, 1)]), [40])

    def test_kinds_that_are_too_large(self):
        self.assertEqual(max_of(3, 3, [(4, 1, 5, 1), (1, 9, 5, 1), (9, 9, 999, 0)]), [0])
        self.assertEqual(max_of(4, 1, [(1, 4, 5, 0)]), [0])
        self.assertEqual(max_of(4, 1, [(1, 4, 5, 1)]), [5])

    def test_the_saw_cuts_from_edge_to_edge(self):
        # Four such stones fit round the middle of the slab, but no first cut would leave all four whole.
        self.assertEqual(max_of(5, 5, [(3, 2, 1, 1)]), [3])

    def test_follows_the_slab(self):
        calls = with_kinds(5, 3, KINDS)
        self.assertEqual(last(*calls, max_value()), [23])
        self.assertEqual(last(*calls, set_slab(2, 3), max_value()), [10])
        self.assertEqual(last(*calls, set_slab(1, 1), max_value()), [0])


class MaxValueOf(unittest.TestCase):
    def test_the_whole_slab_is_its_max_value(self):
        for width in range(1, 10):
            for height in range(1, 10):
                parts = ask(*with_kinds(width, height, KINDS), max_value(), max_value_of(width, height))
                self.assertEqual(parts[-1], parts[-2])

    def test_every_piece(self):
        self.assertEqual(
            worths_of(KINDS, 5, 3),
            {
                (1, 1): 0, (1, 2): 3, (1, 3): 3,
                (2, 1): 3, (2, 2): 6, (2, 3): 10,
                (3, 1): 3, (3, 2): 9, (3, 3): 13,
                (4, 1): 6, (4, 2): 12, (4, 3): 20,
                (5, 1): 6, (5, 2): 15, (5, 3): 23,
            },
        )

    def test_a_piece_is_worth_the_same_in_every_slab(self):
        whole = worths_of(KINDS, 9, 9)
        for width, height in ((1, 9), (9, 1), (4, 6)):
            for piece, worth in worths_of(KINDS, width, height).items():
                self.assertEqual(worth, whole[piece])

    def test_width_and_height_are_not_mixed_up(self):
        calls = with_kinds(5, 3, [(4, 2, 6, 0)])
        self.assertEqual(last(*calls, max_value_of(4, 2)), [6])
        self.assertEqual(last(*calls, max_value_of(2, 3)), [0])

    def test_out_of_range(self):
        calls = with_kinds(5, 3, KINDS)
        for x in (LOWEST, -1, 0, 6, 9, 10, HIGHEST):
            for y in (1, 3, 0, 4, LOWEST, HIGHEST):
                self.assertEqual(last(*calls, max_value_of(x, y)), OUT_OF_RANGE, (x, y))
        for y in (LOWEST, -1, 0, 4, 5, 9, 10, HIGHEST):
            for x in (1, 3, 5):
                self.assertEqual(last(*calls, max_value_of(x, y)), OUT_OF_RANGE, (x, y))

    def test_the_range_follows_the_slab(self):
        self.assertEqual(last(create(1, 1), max_value_of(1, 1)), [0])
        self.assertEqual(last(create(9, 9), max_value_of(9, 9)), [0])
        for side in WRONG_SIDES:
            self.assertEqual(last(create(9, 9), max_value_of(side, 9)), OUT_OF_RANGE)
            self.assertEqual(last(create(9, 9), max_value_of(9, side)), OUT_OF_RANGE)
        calls = with_kinds(5, 3, KINDS) + [set_slab(3, 5)]
        self.assertEqual(last(*calls, max_value_of(3, 5)), [22])
        self.assertEqual(last(*calls, max_value_of(5, 3)), OUT_OF_RANGE)
        self.assertEqual(last(*calls, create(2, 2), max_value_of(2, 3)), OUT_OF_RANGE)

    def test_follows_the_values(self):
        calls = with_kinds(5, 3, KINDS)
        self.assertEqual(last(*calls, set_value(1, 999), max_value_of(1, 3)), [999])
        self.assertEqual(last(*calls, set_value(1, 0), max_value_of(1, 3)), [0])


if __name__ == "__main__":
    unittest.main()
