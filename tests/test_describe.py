"""What describe tells, and that the other calls show the same."""

import unittest

from asking import (
    HIGHEST, add_kind, ask, create, describe, last, max_value_of, remove_kind, set_may_turn, set_slab, set_value,
    with_kinds,
)

KINDS = [(2, 3, 10, 0), (2, 1, 3, 1), (4, 1, 7, 0)]
FIVE = KINDS + [(1, 9, 0, 1), (9, 9, 999, 0)]


class Describe(unittest.TestCase):
    def test_no_kinds(self):
        for width in range(1, 10):
            for height in range(1, 10):
                self.assertEqual(last(create(width, height), describe()), [0, width, height])

    def test_kinds_in_their_order(self):
        for count in range(6):
            numbers = [number for kind in FIVE[:count] for number in kind]
            self.assertEqual(last(*with_kinds(5, 3, FIVE[:count]), describe()), [count, 5, 3] + numbers)

    def test_edges_of_a_kind(self):
        for kind in ((1, 9, 0, 0), (9, 1, 999, 1), (1, 1, 999, 0), (9, 9, 0, 1)):
            self.assertEqual(last(create(1, 1), add_kind(*kind), describe()), [1, 1, 1, *kind])

    def test_follows_each_change(self):
        calls = with_kinds(5, 3, KINDS)
        for change, told in (
            (set_value(1, 999), [3, 5, 3, 2, 3, 10, 0, 2, 1, 999, 1, 4, 1, 7, 0]),
            (set_may_turn(2, 1), [3, 5, 3, 2, 3, 10, 0, 2, 1, 3, 1, 4, 1, 7, 1]),
            (remove_kind(0), [2, 5, 3, 2, 1, 3, 1, 4, 1, 7, 0]),
            (remove_kind(2), [2, 5, 3, 2, 3, 10, 0, 2, 1, 3, 1]),
            (add_kind(9, 8, 7, 1), [4, 5, 3, 2, 3, 10, 0, 2, 1, 3, 1, 4, 1, 7, 0, 9, 8, 7, 1]),
            (set_slab(3, 5), [3, 3, 5, 2, 3, 10, 0, 2, 1, 3, 1, 4, 1, 7, 0]),
            (create(1, 9), [0, 1, 9]),
        ):
            self.assertEqual(last(*calls, change, describe()), told, change)

    def test_each_time_anew(self):
        calls = with_kinds(5, 3, KINDS)
        answered = ask(*calls, describe(), set_value(0, 1), describe(), describe(), remove_kind(HIGHEST), describe())
        parts = answered[len(calls):]
        self.assertEqual(parts[0], [3, 5, 3, 2, 3, 10, 0, 2, 1, 3, 1, 4, 1, 7, 0])
        self.assertEqual(parts[2], [3, 5, 3, 2, 3, 1, 0, 2, 1, 3, 1, 4, 1, 7, 0])
        self.assertEqual(parts[3], parts[2])
        self.assertEqual(parts[5], parts[2])


class OtherCallsShowTheSame(unittest.TestCase):
    """The kinds and the slab as the answers of other calls show them."""

    def check(self, calls):
        told = last(*calls, describe())
        self.assertEqual(last(*calls, set_slab(1, 1)), [0] + told[1:3], calls)
        count = told[0]
        self.assertEqual(ask(*calls, *[remove_kind(0)] * count)[len(calls):], [[k] for k in reversed(range(count))])
        for k in range(count):
            self.assertEqual(told[3 + 4 * k:7 + 4 * k], self.shown(calls, k, count), (k, calls))

    def shown(self, calls, k, count):
        value = last(*calls, set_value(k, 0))[0]
        may_turn = last(*calls, set_may_turn(k, 0))[0]
        # Once k alone is worth something, a piece is worth something as soon as it is as wide and as high as k.
        alone = [set_slab(9, 9), set_may_turn(k, 0)] + [set_value(j, 1 if j == k else 0) for j in range(count)]
        widths = [max_value_of(x, 9) for x in range(1, 10)]
        heights = [max_value_of(9, y) for y in range(1, 10)]
        worths = [part[0] for part in ask(*calls, *alone, *widths, *heights)[-18:]]
        return [1 + worths[:9].count(0), 1 + worths[9:].count(0), value, may_turn]

    def test_behind_each_change(self):
        for kinds in ([], KINDS, FIVE):
            calls = with_kinds(5, 3, kinds)
            self.check(calls)
            for change in (
                create(2, 9), create(2, 10), add_kind(7, 8, 9, 1), add_kind(0, 8, 9, 1), remove_kind(0), remove_kind(2),
                remove_kind(-1), set_value(0, 0), set_value(2, 999), set_value(0, 1000), set_may_turn(1, 0),
                set_may_turn(0, 1), set_may_turn(0, 2), set_slab(9, 1), set_slab(0, 1),
            ):
                self.check(calls + [change])


if __name__ == "__main__":
    unittest.main()
