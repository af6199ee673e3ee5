"""The calls that change the instance: create, add_kind, remove_kind, set_value, set_may_turn, set_slab."""

import unittest

from asking import (
    HIGHEST, LOWEST, NO_SUCH_KIND, OUT_OF_RANGE, TOO_MANY_KINDS, WRONG_MAY_TURNS, WRONG_SIDES, WRONG_VALUES,
    add_kind, ask, best_pattern, create, last, max_value, remove_kind, set_may_turn, set_slab, set_value,
    state_after, with_kinds,
)

THREE = [(2, 3, 10, 0), (2, 1, 3, 1), (4, 1, 7, 0)]
FIVE = [(1, 2, 3, 0), (2, 3, 4, 1), (3, 4, 5, 0), (4, 5, 6, 1), (5, 6, 7, 0)]


class Create(unittest.TestCase):
    def test_every_size(self):
        for width in range(1, 10):
            for height in range(1, 10):
                self.assertEqual(ask(create(width, height)), [[0]])
                self.assertEqual(state_after(create(width, height)), (width, height, []))

    def test_out_of_range(self):
        for side in WRONG_SIDES:
            for call in (create(side, 3), create(3, side), create(side, side)):
                self.assertEqual(ask(call), [OUT_OF_RANGE], call)

    def test_replaces_the_instance(self):
        before = with_kinds(5, 3, THREE)
        self.assertEqual(last(*before, create(9, 1)), [0])
        self.assertEqual(state_after(*before, create(9, 1)), (9, 1, []))
        self.assertEqual(last(*before, create(5, 3), best_pattern()), [0, 0])
        self.assertEqual(last(*before, create(5, 3), add_kind(1, 1, 1, 0)), [0])
        self.assertEqual(last(*with_kinds(5, 3, FIVE), create(5, 3), add_kind(1, 1, 1, 0)), [0])

    def test_refused_keeps_the_instance(self):
        before = with_kinds(5, 3, THREE)
        for side in WRONG_SIDES:
            for call in (create(side, 2), create(2, side)):
                self.assertEqual(last(*before, call), OUT_OF_RANGE, call)
                self.assertEqual(last(*before, call, max_value()), [24], call)
        self.assertEqual(state_after(*before, create(9, 10)), (5, 3, THREE))
        self.assertEqual(state_after(*before, create(0, 9)), (5, 3, THREE))


class AddKind(unittest.TestCase):
    def test_index_and_kind(self):
        calls = with_kinds(5, 3, FIVE)
        self.assertEqual(ask(*calls), [[0], [0], [1], [2], [3], [4]])
        self.assertEqual(state_after(*calls), (5, 3, FIVE))

    def test_edges(self):
        for kind in ((1, 1, 0, 0), (1, 9, 999, 1), (9, 1, 999, 0), (9, 9, 0, 1), (9, 9, 999, 0)):
            self.assertEqual(last(create(1, 1), add_kind(*kind)), [0], kind)
            self.assertEqual(state_after(create(1, 1), add_kind(*kind)), (1, 1, [kind]))

    def test_out_of_range(self):
        wrong = [add_kind(side, 1, 1, 0) for side in WRONG_SIDES]
        wrong += [add_kind(1, side, 1, 0) for side in WRONG_SIDES]
        wrong += [add_kind(1, 1, value, 0) for value in WRONG_VALUES]
        wrong += [add_kind(1, 1, 1, may_turn) for may_turn in WRONG_MAY_TURNS]
        wrong += [add_kind(0, 10, -1, 2), add_kind(LOWEST, HIGHEST, LOWEST, HIGHEST)]
        for call in wrong:
            self.assertEqual(ask(create(5, 3), call), [[0], OUT_OF_RANGE], call)
            self.assertEqual(ask(create(5, 3), call, add_kind(1, 1, 1, 0)), [[0], OUT_OF_RANGE, [0]], call)
            # With five kinds both refusals are due, and the range comes first.
            self.assertEqual(last(*with_kinds(5, 3, FIVE), call), OUT_OF_RANGE, call)

    def test_sixth_kind(self):
        before = with_kinds(5, 3, FIVE)
        self.assertEqual(last(*before, add_kind(1, 1, 1, 0)), TOO_MANY_KINDS)
        self.assertEqual(ask(*before, add_kind(1, 1, 1, 0), add_kind(9, 9, 999, 1))[-2:], [TOO_MANY_KINDS] * 2)
        self.assertEqual(state_after(*before, add_kind(1, 1, 1, 0)), (5, 3, FIVE))

    def test_fifth_place_is_free_again_behind_remove_kind(self):
        calls = with_kinds(5, 3, FIVE) + [remove_kind(1), add_kind(7, 8, 9, 1)]
        self.assertEqual(ask(*calls)[-2:], [[4], [4]])
        self.assertEqual(state_after(*calls), (5, 3, [FIVE[0]] + FIVE[2:] + [(7, 8, 9, 1)]))


class RemoveKind(unittest.TestCase):
    def test_each_place(self):
        for k in range(5):
            calls = with_kinds(5, 3, FIVE) + [remove_kind(k)]
            self.assertEqual(last(*calls), [4])
            self.assertEqual(state_after(*calls), (5, 3, FIVE[:k] + FIVE[k + 1:]))

    def test_down_to_none(self):
        calls = with_kinds(5, 3, FIVE) + [remove_kind(0)] * 6
        self.assertEqual(ask(*calls)[-6:], [[4], [3], [2], [1], [0], NO_SUCH_KIND])

    def test_later_indices_decrease(self):
        calls = with_kinds(5, 3, FIVE) + [remove_kind(2)]
        self.assertEqual(last(*calls, set_value(2, 0)), [6])
        self.assertEqual(last(*calls, set_value(3, 0)), [7])
        self.assertEqual(last(*calls, set_value(4, 0)), NO_SUCH_KIND)

    def test_best_pattern_counts_anew(self):
        kinds = [(9, 9, 1, 0), (9, 8, 1, 0), (1, 1, 5, 0)]
        self.assertEqual(last(*with_kinds(1, 1, kinds), best_pattern()), [5, 1, 2])
        self.assertEqual(last(*with_kinds(1, 1, kinds), remove_kind(1), best_pattern()), [5, 1, 1])

    def test_no_such_kind(self):
        for k in (LOWEST, -3, -1, 3, 4, 5, HIGHEST):
            self.assertEqual(last(*with_kinds(5, 3, THREE), remove_kind(k)), NO_SUCH_KIND, k)
        for k in (-1, 0, 1):
            self.assertEqual(last(create(5, 3), remove_kind(k)), NO_SUCH_KIND, k)


class SetValue(unittest.TestCase):
    def test_old_value_and_change(self):
        before = with_kinds(5, 3, THREE)
        for k in range(3):
            for value in (0, 1, 500, 999):
                calls = before + [set_value(k, value)]
                self.assertEqual(last(*calls), [THREE[k][2]])
                changed = list(THREE)
                changed[k] = THREE[k][:2] + (value, THREE[k][3])
                self.assertEqual(state_after(*calls), (5, 3, changed))

    def test_one_behind_another(self):
        calls = with_kinds(5, 3, THREE) + [set_value(1, 999), set_value(1, 0), set_value(1, 0)]
        self.assertEqual(ask(*calls)[-3:], [[3], [999], [0]])

    def test_best_pattern_follows(self):
        calls = with_kinds(2, 1, [(1, 1, 1, 0), (2, 1, 3, 0)])
        self.assertEqual(last(*calls, best_pattern()), [3, 1, 1])
        self.assertEqual(last(*calls, set_value(0, 2), best_pattern()), [4, 2, 1, 1, 0, 1, 0])

    def test_out_of_range(self):
        for value in WRONG_VALUES:
            for k in range(3):
                self.assertEqual(last(*with_kinds(5, 3, THREE), set_value(k, value)), OUT_OF_RANGE, (k, value))

    def test_no_such_kind(self):
        for k in (LOWEST, -3, -1, 3, 5, HIGHEST):
            # Both refusals are due if the value is wrong too, and the kind comes first.
            for value in (0, 999) + WRONG_VALUES:
                self.assertEqual(last(*with_kinds(5, 3, THREE), set_value(k, value)), NO_SUCH_KIND, (k, value))
        self.assertEqual(last(create(5, 3), set_value(0, 1)), NO_SUCH_KIND)


class SetMayTurn(unittest.TestCase):
    def test_old_mark_and_change(self):
        before = with_kinds(5, 3, THREE)
        for k in range(3):
            for may_turn in (0, 1):
                calls = before + [set_may_turn(k, may_turn)]
                self.assertEqual(last(*calls), [THREE[k][3]])
                changed = list(THREE)
                changed[k] = THREE[k][:3] + (may_turn,)
                self.assertEqual(state_after(*calls), (5, 3, changed))

    def test_one_behind_another(self):
        calls = with_kinds(5, 3, THREE) + [set_may_turn(0, 1), set_may_turn(0, 1), set_may_turn(0, 0)]
        self.assertEqual(ask(*calls)[-3:], [[0], [1], [1]])

    def test_best_pattern_follows(self):
        calls = with_kinds(1, 2, [(2, 1, 3, 0)])
        self.assertEqual(last(*calls, best_pattern()), [0, 0])
        self.assertEqual(last(*calls, set_may_turn(0, 1), best_pattern()), [3, 1, 0])
        self.assertEqual(last(*calls, set_may_turn(0, 1), set_may_turn(0, 0), best_pattern()), [0, 0])

    def test_out_of_range(self):
        for may_turn in WRONG_MAY_TURNS:
            for k in range(3):
                answer = last(*with_kinds(5, 3, THREE), set_may_turn(k, may_turn))
                self.assertEqual(answer, OUT_OF_RANGE, (k, may_turn))

    def test_no_such_kind(self):
        for k in (LOWEST, -3, -1, 3, 5, HIGHEST):
            for may_turn in (0, 1) + WRONG_MAY_TURNS:
                answer = last(*with_kinds(5, 3, THREE), set_may_turn(k, may_turn))
                self.assertEqual(answer, NO_SUCH_KIND, (k, may_turn))
        self.assertEqual(last(create(5, 3), set_may_turn(0, 1)), NO_SUCH_KIND)


class SetSlab(unittest.TestCase):
    def test_every_size(self):
        before = with_kinds(5, 3, THREE)
        for width in range(1, 10):
            for height in range(1, 10):
                self.assertEqual(last(*before, set_slab(width, height)), [0, 5, 3])
                self.assertEqual(last(*before, set_slab(width, height), set_slab(1, 1)), [0, width, height])

    def test_keeps_the_kinds(self):
        calls = with_kinds(5, 3, THREE) + [set_slab(1, 9)]
        self.assertEqual(state_after(*calls), (1, 9, THREE))

    def test_best_pattern_follows(self):
        calls = with_kinds(1, 1, [(3, 2, 8, 0)])
        self.assertEqual(last(*calls, best_pattern()), [0, 0])
        self.assertEqual(last(*calls, set_slab(3, 2), best_pattern()), [8, 1, 0])
        self.assertEqual(last(*calls, set_slab(2, 3), best_pattern()), [0, 0])

    def test_out_of_range(self):
        before = with_kinds(5, 3, THREE)
        for side in WRONG_SIDES:
            for call in (set_slab(side, 2), set_slab(2, side), set_slab(side, side)):
                self.assertEqual(last(*before, call), OUT_OF_RANGE, call)
                self.assertEqual(last(*before, call, set_slab(1, 1)), [0, 5, 3], call)


if __name__ == "__main__":
    unittest.main()
