"""How answers takes calls and gives back their answers."""

import inspect
import time
import unittest

from asking import (
    HIGHEST, LOWEST, add_kind, best_pattern, check_pattern, create, describe, flat, max_value, max_value_if_value,
    max_value_of, max_value_without, min_height, remove_kind, set_may_turn, set_slab, set_value, split, stone_counts,
    values_for_height, waste_area,
)
from slabsaw.cuts import answers

MIXED = flat([
    max_value(), create(0, 1), create(5, 3), add_kind(2, 3, 10, 0), add_kind(2, 1, 3, 1), add_kind(10, 1, 1, 0),
    best_pattern(), set_value(1, 4), set_may_turn(0, 1), set_slab(4, 9), max_value_of(4, 9), best_pattern(),
    stone_counts(), waste_area(), check_pattern([]), check_pattern([2, 1, 0, 1, 0]), check_pattern([3, 2, 0, 0]),
    values_for_height(2), values_for_height(10), max_value_without(1), max_value_without(2), max_value_if_value(0, 99),
    max_value_if_value(0, -1), min_height(30), min_height(-1), min_height(HIGHEST), describe(),
    remove_kind(0), remove_kind(5), set_value(LOWEST, HIGHEST), max_value(), create(9, 9), best_pattern(), describe(),
])
LARGEST_KINDS = [(1, 1, 999, 0), (1, 2, 999, 1), (2, 3, 999, 1), (3, 4, 999, 1), (9, 9, 999, 1)]


class Interface(unittest.TestCase):
    def test_its_one_parameter(self):
        self.assertEqual(str(inspect.signature(answers)), "(calls)")

    def test_counts_and_numbers(self):
        self.assertEqual(answers([6]), [1, -11])
        self.assertEqual(answers([0, 4, 7]), [1, 0])
        self.assertEqual(answers([0, 4, 7, 5, 1, 2, 5, 0, 2]), [1, 0, 3, 0, 4, 7, 1, -22])
        self.assertEqual(answers([0, 1, 1, 1, 1, 1, 5, 0, 8, 6, 7, 1, 1]), [1, 0, 1, 0, 3, 5, 1, 0, 1, 5, 1, 5])
        self.assertEqual(
            answers([0, 1, 1, 1, 1, 1, 5, 0, 3, 0, 9, 4, 0, 1, 2, 0, 2, 0]),
            [1, 0, 1, 0, 1, 5, 1, 0, 1, 0, 1, -2],
        )

    def test_counts_of_the_queries(self):
        for call, answered in (
            ([9], [3, 5, 5, 0]), ([10], [1, 0]), ([11, 0], [1, -22]), ([11, 1, 0], [3, 0, 0, 0]),
            ([11, 5, 2, 1, 0, 1, 1], [3, 3, 0, 1]), ([11, 2, 1, 0], [1, -33]), ([12, 1], [6, 5, 2, 4, 6, 8, 10]),
            ([12, 2], [1, -22]), ([13, 0], [1, 3]), ([13, 2], [1, -2]), ([14, 0, 7], [1, 35]), ([14, 2, 7], [1, -2]),
            ([15, 10], [1, 1]), ([15, 1000], [1, -33]), ([16], [11, 2, 5, 1, 1, 1, 2, 0, 1, 4, 3, 1]),
        ):
            calls = [0, 5, 1, 1, 1, 1, 2, 0, 1, 1, 4, 3, 1] + call + [5, 5, 1]
            self.assertEqual(answers(calls), [1, 0, 1, 0, 1, 1] + answered + [3, 0, 5, 1], call)

    def test_rows_behind_one_another(self):
        calls = [0, 9, 9, 11, 0, 11, 1, 0, 11, 0, 11, 4, 2, 8, 0, 0, 11, 3, 2, 8, 0, 11, 1, 11, 6, 11, 2, 0, 16, 16]
        self.assertEqual(
            answers(calls),
            [1, 0, 1, -22, 1, 0, 1, -22, 1, 0, 1, -22, 1, -22, 1, 0, 1, -22, 3, 0, 9, 9],
        )

    def test_only_whole_numbers_are_given_back(self):
        answered = answers(MIXED)
        self.assertIs(type(answered), list)
        for number in answered:
            self.assertIs(type(number), int)

    def test_only_refusals_begin_below_0(self):
        for part in split(answers(MIXED)):
            if part[0] < 0:
                self.assertEqual(len(part), 1)
            self.assertTrue(all(number >= 0 for number in part[1:]))

    def test_what_is_handed_in_stays_as_it_was(self):
        calls = list(MIXED)
        answers(calls)
        self.assertEqual(calls, MIXED)

    def test_the_same_again(self):
        first = answers(list(MIXED))
        first_copy = list(first)
        self.assertEqual(answers(list(MIXED)), first_copy)
        first.append(7)
        self.assertEqual(answers(list(MIXED)), first_copy)

    def test_nothing_is_kept_from_one_time_to_the_next(self):
        answers(flat([create(5, 3), add_kind(1, 1, 1, 0)]))
        self.assertEqual(answers(flat([max_value(), remove_kind(0), best_pattern()])), [1, -11] * 3)
        self.assertEqual(answers(flat([create(2, 2), add_kind(1, 1, 1, 0)])), [1, 0, 1, 0])


class Largest(unittest.TestCase):
    BEGINNING = [create(9, 9)] + [add_kind(*kind) for kind in LARGEST_KINDS]

    def largest(self, call):
        """The answers to as many calls of a kind as there may be; fails if they take longer than seconds."""
        calls = flat(self.BEGINNING + [call] * 54)
        start = time.monotonic()
        answered = answers(calls)
        self.assertLess(time.monotonic() - start, 5, call)
        parts = split(answered)
        self.assertEqual(len(parts), 60, call)
        self.assertEqual(parts[6:], parts[6:7] * 54, call)
        return parts[6]

    def test_best_patterns(self):
        part = self.largest(best_pattern())
        self.assertEqual(part[0], 81 * 999)
        self.assertEqual(len(part), 1 + 80 * 2 + 81 * 2)

    def test_the_other_queries(self):
        columns = ([2, 1] + [3, 4, 0, 0]) * 11 + [3, 4, 0, 0]
        for call, answer in (
            (max_value(), [81 * 999]),
            (max_value_of(9, 9), [81 * 999]),
            (stone_counts(), [81, 81, 0, 0, 0, 0]),
            (waste_area(), [0]),
            (check_pattern(columns), [-33]),
            (check_pattern(columns[18:]), [0] * 6),
            (check_pattern([2, 1] * 35), [-22]),
            (values_for_height(9), [9] + [999 * 9 * x for x in range(1, 10)]),
            (max_value_without(0), [40 * 999]),
            (max_value_if_value(4, 0), [81 * 999]),
            (min_height(81 * 999), [9]),
            (min_height(HIGHEST), [-33]),
            (describe(), [5, 9, 9] + [number for kind in LARGEST_KINDS for number in kind]),
        ):
            self.assertEqual(self.largest(call), answer, call)


if __name__ == "__main__":
    unittest.main()
