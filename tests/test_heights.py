"""The queries over several sizes: values_for_height and min_height."""

import unittest

from asking import (
    HIGHEST, LOWEST, NO_FIT, OUT_OF_RANGE, WRONG_SIDES, ask, create, last, max_value, max_value_of, min_height,
    remove_kind, set_slab, set_value, values_for_height, with_kinds,
)

KINDS = [(2, 3, 10, 0), (2, 1, 3, 1)]


class ValuesForHeight(unittest.TestCase):
    def test_each_height(self):
        calls = with_kinds(5, 3, KINDS)
        self.assertEqual(last(*calls, values_for_height(1)), [5, 0, 3, 3, 6, 6])
        self.assertEqual(last(*calls, values_for_height(2)), [5, 3, 6, 9, 12, 15])
        self.assertEqual(last(*calls, values_for_height(3)), [5, 3, 10, 13, 20, 23])

    def test_no_kinds(self):
        for width, height in ((1, 1), (9, 1), (1, 9), (9, 9)):
            for y in (1, height):
                self.assertEqual(last(create(width, height), values_for_height(y)), [width] + [0] * width)

    def test_the_numbers_of_max_value_of(self):
        kinds = KINDS + [(4, 1, 7, 0), (3, 5, 60, 1), (9, 9, 999, 0)]
        for width, height in ((1, 1), (9, 9), (9, 4), (3, 9), (1, 9)):
            calls = with_kinds(width, height, kinds)
            for y in range(1, height + 1):
                asked = [max_value_of(x, y) for x in range(1, width + 1)]
                parts = ask(*calls, values_for_height(y), *asked)[len(calls):]
                self.assertEqual(parts[0], [width] + [part[0] for part in parts[1:]], (width, height, y))

    def test_the_last_one_at_the_slabs_height_is_its_max_value(self):
        parts = ask(*with_kinds(7, 6, KINDS), values_for_height(6), max_value())
        self.assertEqual(parts[-2][-1:], parts[-1])

    def test_out_of_range(self):
        for y in (LOWEST, -1, 0, 4, 5, 9, 10, HIGHEST):
            self.assertEqual(last(*with_kinds(5, 3, KINDS), values_for_height(y)), OUT_OF_RANGE, y)
        for y in WRONG_SIDES:
            self.assertEqual(last(create(9, 9), values_for_height(y)), OUT_OF_RANGE, y)
        for y in (LOWEST, 0, 2, HIGHEST):
            self.assertEqual(last(create(9, 1), values_for_height(y)), OUT_OF_RANGE, y)

    def test_follows_the_slab(self):
        calls = with_kinds(5, 3, KINDS) + [set_slab(2, 5)]
        self.assertEqual(last(*calls, values_for_height(3)), [2, 3, 10])
        self.assertEqual(last(*calls, values_for_height(5)), [2, 6, 16])
        self.assertEqual(last(*calls, values_for_height(6)), OUT_OF_RANGE)
        self.assertEqual(last(*calls, set_slab(3, 2), values_for_height(3)), OUT_OF_RANGE)


class MinHeight(unittest.TestCase):
    def test_value_0(self):
        self.assertEqual(last(create(1, 1), min_height(0)), [1])
        self.assertEqual(last(create(9, 9), min_height(0)), [1])
        self.assertEqual(last(*with_kinds(5, 3, KINDS), min_height(0)), [1])

    def test_just_reached_and_one_above(self):
        # A slab 5 wide is worth 6, 15, 23, 32, 38, 49, 55, 64, 72 at the heights 1 to 9.
        worths = [6, 15, 23, 32, 38, 49, 55, 64, 72]
        calls = with_kinds(5, 9, KINDS)
        asked = [max_value_of(5, y) for y in range(1, 10)]
        self.assertEqual(ask(*calls, *asked)[len(calls):], [[worth] for worth in worths])
        for place, worth in enumerate(worths):
            self.assertEqual(last(*calls, min_height(worth)), [place + 1], worth)
            above = NO_FIT if place == 8 else [place + 2]
            self.assertEqual(last(*calls, min_height(worth + 1)), above, worth + 1)

    def test_the_slabs_own_height_does_not_count(self):
        for height in range(1, 10):
            calls = with_kinds(5, height, KINDS)
            for value, least in ((1, [1]), (12, [2]), (23, [3]), (24, [4]), (72, [9]), (73, NO_FIT)):
                self.assertEqual(last(*calls, min_height(value)), least, (height, value))

    def test_the_slabs_width_counts(self):
        for width, least in ((1, [4]), (2, [2]), (3, [2]), (4, [1]), (9, [1])):
            self.assertEqual(last(*with_kinds(width, 3, KINDS), min_height(6)), least, width)
        calls = with_kinds(1, 9, [(9, 1, 5, 0)])
        self.assertEqual(last(*calls, min_height(1)), NO_FIT)
        self.assertEqual(last(*calls, set_slab(9, 1), min_height(45)), [9])
        self.assertEqual(last(*calls, set_slab(9, 1), min_height(46)), NO_FIT)

    def test_heights_at_which_the_value_stays(self):
        calls = with_kinds(4, 1, [(4, 5, 7, 0)])
        self.assertEqual(last(*calls, min_height(1)), [5])
        self.assertEqual(last(*calls, min_height(7)), [5])
        self.assertEqual(last(*calls, min_height(8)), NO_FIT)

    def test_no_height_is_large_enough(self):
        self.assertEqual(last(create(9, 9), min_height(1)), NO_FIT)
        self.assertEqual(last(*with_kinds(5, 3, KINDS), min_height(HIGHEST)), NO_FIT)
        calls = with_kinds(9, 1, [(1, 1, 999, 0)])
        self.assertEqual(last(*calls, min_height(81 * 999)), [9])
        self.assertEqual(last(*calls, min_height(81 * 999 + 1)), NO_FIT)
        self.assertEqual(last(*calls, min_height(1000)), [1])

    def test_negative(self):
        for value in (-1, -2, -22, LOWEST):
            self.assertEqual(last(*with_kinds(5, 3, KINDS), min_height(value)), OUT_OF_RANGE, value)
            self.assertEqual(last(create(1, 1), min_height(value)), OUT_OF_RANGE, value)

    def test_follows_the_changes(self):
        calls = with_kinds(5, 3, KINDS)
        self.assertEqual(last(*calls, set_value(1, 6), min_height(12)), [1])
        self.assertEqual(last(*calls, remove_kind(1), min_height(12)), [3])
        self.assertEqual(last(*calls, remove_kind(0), remove_kind(0), min_height(12)), NO_FIT)


if __name__ == "__main__":
    unittest.main()
