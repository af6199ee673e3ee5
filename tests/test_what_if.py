"""What the slab would be worth: max_value_without and max_value_if_value."""

import unittest

from asking import (
    HIGHEST, LOWEST, NO_SUCH_KIND, OUT_OF_RANGE, WRONG_VALUES, ask, create, describe, last, max_value,
    max_value_if_value, max_value_without, remove_kind, set_slab, set_value, with_kinds,
)

KINDS = [(2, 3, 10, 0), (2, 1, 3, 1), (4, 1, 7, 0)]
FIVE = KINDS + [(1, 1, 2, 1), (5, 3, 40, 0)]


class WhatIf(unittest.TestCase):
    def check(self, calls, query, change):
        """The query tells what max_value tells behind the change, and changes nothing itself."""
        expected = ask(*calls, change, max_value())[-1]
        parts = ask(*calls, describe(), max_value(), query, query, describe(), max_value())[-6:]
        self.assertEqual(parts[2:4], [expected, expected], (query, calls))
        self.assertEqual(parts[4:], parts[:2], (query, calls))

    def test_without_each_kind(self):
        for kinds in (KINDS[:1], KINDS, FIVE):
            for width, height in ((5, 3), (9, 9), (1, 1), (4, 1)):
                for k in range(len(kinds)):
                    self.check(with_kinds(width, height, kinds), max_value_without(k), remove_kind(k))

    def test_if_each_kind_had_another_value(self):
        for kinds in (KINDS[:1], KINDS, FIVE):
            for width, height in ((5, 3), (9, 9), (1, 1), (4, 1)):
                for k in range(len(kinds)):
                    for value in (0, 1, 20, 999):
                        self.check(with_kinds(width, height, kinds), max_value_if_value(k, value), set_value(k, value))

    def test_equal_kinds(self):
        calls = with_kinds(2, 1, [(1, 1, 5, 0), (1, 1, 5, 0)])
        for k in range(2):
            self.assertEqual(last(*calls, max_value_without(k)), [10])
            self.assertEqual(last(*calls, max_value_if_value(k, 0)), [10])
            self.assertEqual(last(*calls, max_value_if_value(k, 6)), [12])


class MaxValueWithout(unittest.TestCase):
    def test_plain_numbers(self):
        calls = with_kinds(5, 3, KINDS)
        self.assertEqual(ask(*calls, max_value())[-1], [24])
        self.assertEqual(ask(*calls, *[max_value_without(k) for k in range(3)])[-3:], [[24], [21], [23]])
        self.assertEqual(last(*with_kinds(5, 3, KINDS[:1]), max_value_without(0)), [0])

    def test_follows_the_changes(self):
        calls = with_kinds(5, 3, KINDS)
        self.assertEqual(last(*calls, remove_kind(0), max_value_without(1)), [21])
        self.assertEqual(last(*calls, set_slab(2, 3), max_value_without(0)), [9])

    def test_no_such_kind(self):
        for k in (LOWEST, -3, -1, 3, 4, 5, HIGHEST):
            self.assertEqual(last(*with_kinds(5, 3, KINDS), max_value_without(k)), NO_SUCH_KIND, k)
        for k in (LOWEST, -1, 5, 6, HIGHEST):
            self.assertEqual(last(*with_kinds(5, 3, FIVE), max_value_without(k)), NO_SUCH_KIND, k)
        for k in (-1, 0, 1):
            self.assertEqual(last(create(5, 3), max_value_without(k)), NO_SUCH_KIND, k)


class MaxValueIfValue(unittest.TestCase):
    def test_plain_numbers(self):
        calls = with_kinds(5, 3, [(2, 3, 10, 0), (2, 1, 3, 1)])
        self.assertEqual(last(*calls, max_value_if_value(0, 0)), [21])
        self.assertEqual(last(*calls, max_value_if_value(0, 10)), [23])
        self.assertEqual(last(*calls, max_value_if_value(0, 99)), [201])
        self.assertEqual(last(*calls, max_value_if_value(1, 0)), [20])
        self.assertEqual(last(*calls, max_value_if_value(1, 999)), [7 * 999])

    def test_the_kind_stays_as_it_is_otherwise(self):
        for may_turn, worth in ((0, [0]), (1, [999])):
            calls = with_kinds(3, 2, [(2, 3, 1, may_turn)])
            self.assertEqual(last(*calls, max_value_if_value(0, 999)), worth)

    def test_out_of_range(self):
        for value in WRONG_VALUES:
            for k in range(3):
                answer = last(*with_kinds(5, 3, KINDS), max_value_if_value(k, value))
                self.assertEqual(answer, OUT_OF_RANGE, (k, value))

    def test_no_such_kind(self):
        for k in (LOWEST, -3, -1, 3, 4, 5, HIGHEST):
            # Both refusals are due if the value is wrong too, and the kind comes first.
            for value in (0, 999) + WRONG_VALUES:
                answer = last(*with_kinds(5, 3, KINDS), max_value_if_value(k, value))
                self.assertEqual(answer, NO_SUCH_KIND, (k, value))
        self.assertEqual(last(create(5, 3), max_value_if_value(0, 1)), NO_SUCH_KIND)


if __name__ == "__main__":
    unittest.main()
