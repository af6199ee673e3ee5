"""How answers takes calls and gives back their answers."""

import inspect
import time
import unittest

from asking import (
    HIGHEST, LOWEST, add_kind, best_pattern, create, flat, max_value, max_value_of, remove_kind, set_may_turn,
    set_slab, set_value, split,
)
from slabsaw.cuts import answers

MIXED = flat([
    max_value(), create(0, 1), create(5, 3), add_kind(2, 3, 10, 0), add_kind(2, 1, 3, 1), add_kind(10, 1, 1, 0),
    best_pattern(), set_value(1, 4), set_may_turn(0, 1), set_slab(4, 9), max_value_of(4, 9), best_pattern(),
    remove_kind(0), remove_kind(5), set_value(LOWEST, HIGHEST), max_value(), create(9, 9), best_pattern(),
])
LARGEST_KINDS = [(1, 1, 999, 0), (1, 2, 999, 1), (2, 3, 999, 1), (3, 4, 999, 1), (9, 9, 999, 1)]


class Interface(unittest.TestCase):
    def test_its_one_parameter(self):
        self.assertEqual(str(inspect.signature(answers)), "(calls)")

    def test_counts_and_numbers(self):
        self.assertEqual(answers([6]), [1, -11])
        self.assertEqual(answers([0, 4, 7]), [1, 0])
        self.assertEqual(answers([0, 4, 7, 5, 1, 2, 5, 0, 2]), [1, 0, 3, 0, 4, 7, 1, -22])
        self.assertEqual(answers([0, 1, 1, 1, 1, 1, 5, 0, 8, 6, 7, 1, 1]), [1, 0, 1, 0, 3, 5, 1, 0, 1, 5, 1, 5])
        self.assertEqual(
            answers([0, 1, 1, 1, 1, 1, 5, 0, 3, 0, 9, 4, 0, 1, 2, 0, 2, 0]),
            [1, 0, 1, 0, 1, 5, 1, 0, 1, 0, 1, -2],
        )

    def test_only_whole_numbers_are_given_back(self):
        answered = answers(MIXED)
        self.assertIs(type(answered), list)
        for number in answered:
            self.assertIs(type(number), int)

    def test_only_refusals_begin_below_0(self):
        for part in split(answers(MIXED)):
            if part[0] < 0:
                self.assertEqual(len(part), 1)
            self.assertTrue(all(number >= 0 for number in part[1:]))

    def test_what_is_handed_in_stays_as_it_was(self):
        calls = list(MIXED)
        answers(calls)
        self.assertEqual(calls, MIXED)

    def test_the_same_again(self):
        first = answers(list(MIXED))
        first_copy = list(first)
        self.assertEqual(answers(list(MIXED)), first_copy)
        first.append(7)
        self.assertEqual(answers(list(MIXED)), first_copy)

    def test_nothing_is_kept_from_one_time_to_the_next(self):
        answers(flat([create(5, 3), add_kind(1, 1, 1, 0)]))
        self.assertEqual(answers(flat([max_value(), remove_kind(0), best_pattern()])), [1, -11] * 3)
        self.assertEqual(answers(flat([create(2, 2), add_kind(1, 1, 1, 0)])), [1, 0, 1, 0])


class Largest(unittest.TestCase):
    def test_sixty_calls_are_answered_within_seconds(self):
        beginning = [create(9, 9)] + [add_kind(*kind) for kind in LARGEST_KINDS]
        calls = flat(beginning + [best_pattern()] * 54)
        start = time.monotonic()
        answered = answers(calls)
        self.assertLess(time.monotonic() - start, 5)
        parts = split(answered)
        self.assertEqual(len(parts), 60)
        for part in parts[6:]:
            self.assertEqual(part[0], 81 * 999)
            self.assertEqual(len(part), 1 + 80 * 2 + 81 * 2)


if __name__ == "__main__":
    unittest.main()
