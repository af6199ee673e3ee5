"""When there is an instance, and which calls leave it unchanged."""

import unittest

from asking import (
    HIGHEST, LOWEST, NO_FIT, NO_INSTANCE, NO_SUCH_KIND, OUT_OF_RANGE, TOO_MANY_KINDS, WRONG_SIDES, WRONG_VALUES,
    add_kind, ask, best_pattern, check_pattern, create, describe, last, max_value, max_value_if_value, max_value_of,
    max_value_without, min_height, remove_kind, set_may_turn, set_slab, set_value, state_after, stone_counts,
    values_for_height, waste_area, with_kinds,
)

KINDS = [(2, 3, 10, 0), (2, 1, 3, 1), (4, 1, 7, 0)]
FIVE = KINDS + [(1, 2, 3, 0), (9, 9, 999, 1)]

RIGHT_CALLS = (
    add_kind(1, 1, 1, 0), remove_kind(0), set_value(0, 1), set_may_turn(0, 1), set_slab(2, 2), max_value(),
    max_value_of(1, 1), best_pattern(), stone_counts(), waste_area(), check_pattern([0]), check_pattern([1, 0]),
    check_pattern([2, 1, 0] * 22 + [1, 0]), values_for_height(1), max_value_without(0), max_value_if_value(0, 1),
    min_height(0), describe(),
)
WRONG_CALLS = (
    add_kind(0, 1, 1, 0), add_kind(1, 1, 1, 2), remove_kind(-1), remove_kind(HIGHEST), set_value(0, -1),
    set_value(9, 1000), set_may_turn(0, 2), set_may_turn(LOWEST, HIGHEST), set_slab(0, 1), set_slab(1, 10),
    max_value_of(0, 1), max_value_of(HIGHEST, LOWEST), check_pattern([]), check_pattern([4]), check_pattern([2, 1]),
    check_pattern([0] * 70), check_pattern([1, HIGHEST]), check_pattern([LOWEST]), values_for_height(0),
    values_for_height(10), max_value_without(-1), max_value_without(5), max_value_if_value(-1, 1),
    max_value_if_value(0, 1000), min_height(-1), min_height(HIGHEST),
)


class NoInstance(unittest.TestCase):
    def test_ahead_of_create(self):
        for call in RIGHT_CALLS + WRONG_CALLS:
            self.assertEqual(ask(call), [NO_INSTANCE], call)

    def test_all_in_one_list(self):
        calls = RIGHT_CALLS + WRONG_CALLS
        self.assertEqual(ask(*calls), [NO_INSTANCE] * len(calls))

    def test_a_row_that_looks_like_calls(self):
        # Read as calls, the rows would make a slab and kinds.
        row = [0, 5, 3, 1, 2, 3, 10, 0, 6, 16]
        self.assertEqual(ask(check_pattern(row), max_value()), [NO_INSTANCE, NO_INSTANCE])
        self.assertEqual(
            ask(check_pattern([]), create(2, 2), check_pattern(row), describe()),
            [NO_INSTANCE, [0], OUT_OF_RANGE, [0, 2, 2]],
        )

    def test_behind_a_create_that_is_refused(self):
        for side in WRONG_SIDES:
            for refused in (create(side, 1), create(1, side)):
                for call in RIGHT_CALLS:
                    self.assertEqual(ask(refused, call), [OUT_OF_RANGE, NO_INSTANCE], (refused, call))

    def test_nothing_is_left_of_calls_ahead_of_create(self):
        early = [add_kind(1, 1, 1, 0), set_slab(9, 9), create(10, 9), add_kind(2, 2, 2, 0)]
        self.assertEqual(state_after(*early, create(2, 3)), (2, 3, []))
        self.assertEqual(ask(*early, create(2, 3), add_kind(1, 1, 1, 0))[-2:], [[0], [0]])


class Unchanged(unittest.TestCase):
    def check(self, kinds, call, answer):
        before = with_kinds(5, 3, kinds)
        if answer is not None:
            self.assertEqual(last(*before, call), answer, call)
        self.assertEqual(state_after(*before, call), (5, 3, kinds), call)
        asked = [max_value(), best_pattern(), max_value_of(5, 2), max_value_of(2, 3), stone_counts(), describe()]
        self.assertEqual(ask(*before, call, *asked)[-6:], ask(*before, *asked)[-6:], call)

    def test_by_what_is_out_of_range(self):
        for side in WRONG_SIDES:
            for call in (
                create(side, 1), create(1, side), set_slab(side, 1), set_slab(1, side),
                add_kind(side, 1, 1, 0), add_kind(1, side, 1, 0), max_value_of(side, 1), max_value_of(1, side),
                values_for_height(side),
            ):
                self.check(KINDS, call, OUT_OF_RANGE)
        for value in WRONG_VALUES:
            for call in (
                add_kind(1, 1, value, 0), set_value(1, value), add_kind(1, 1, 1, value), max_value_if_value(1, value),
            ):
                self.check(KINDS, call, OUT_OF_RANGE)
            self.check(KINDS, set_may_turn(1, value), OUT_OF_RANGE)
        self.check(KINDS, set_may_turn(1, 2), OUT_OF_RANGE)
        self.check(KINDS, max_value_of(6, 3), OUT_OF_RANGE)
        self.check(KINDS, max_value_of(5, 4), OUT_OF_RANGE)
        self.check(KINDS, values_for_height(4), OUT_OF_RANGE)
        self.check(KINDS, min_height(-1), OUT_OF_RANGE)

    def test_by_kinds_that_are_not_there(self):
        for k in (LOWEST, -1, 3, 4, HIGHEST):
            for call in (
                remove_kind(k), set_value(k, 5), set_may_turn(k, 1), set_value(k, -5), set_may_turn(k, 5),
                max_value_without(k), max_value_if_value(k, 5), max_value_if_value(k, -5),
            ):
                self.check(KINDS, call, NO_SUCH_KIND)

    def test_by_a_sixth_kind(self):
        self.check(FIVE, add_kind(1, 1, 1, 0), TOO_MANY_KINDS)
        self.check(FIVE, add_kind(1, 1, 1, 2), OUT_OF_RANGE)

    def test_by_patterns_that_are_refused(self):
        for kinds in ([], KINDS, FIVE):
            for pattern in ([], [4], [-1], [1], [1, -1], [2, 0, 0, 0], [2, 1], [0, 0], [2, 1] * 35, [1, 9, 0]):
                self.check(kinds, check_pattern(pattern), OUT_OF_RANGE)
            for pattern in ([1, 0], [1, 5], [2, 5, 0, 0], [3, 3, 0, 0], [2, 1, 0, 1, HIGHEST]):
                self.check(kinds, check_pattern(pattern), NO_FIT)

    def test_by_a_height_that_is_not_there(self):
        for kinds in ([], KINDS):
            self.check(kinds, min_height(1000), NO_FIT)
            self.check(kinds, min_height(HIGHEST), NO_FIT)

    def test_by_queries(self):
        for kinds in ([], KINDS, FIVE):
            for call in (
                max_value(), best_pattern(), stone_counts(), waste_area(), describe(), min_height(0), min_height(15),
                check_pattern([0]), check_pattern([2, 2, 1, 0, 0]), check_pattern([2, 4, 3, 1, 0, 0, 0]),
            ):
                self.check(kinds, call, None)
            for x in range(1, 6):
                for y in range(1, 4):
                    self.check(kinds, max_value_of(x, y), None)
            for y in range(1, 4):
                self.check(kinds, values_for_height(y), None)
            for k in range(len(kinds)):
                self.check(kinds, max_value_without(k), None)
                for value in (0, 500, 999):
                    self.check(kinds, max_value_if_value(k, value), None)


if __name__ == "__main__":
    unittest.main()
