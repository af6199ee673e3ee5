"""What check_pattern refuses for its form (-22), what for its fit (-33), and what it accepts."""

import unittest

from asking import (
    HIGHEST, LOWEST, NO_FIT, OUT_OF_RANGE, ask, best_pattern, check_pattern, create, last, remove_kind, set_may_turn,
    set_slab, set_value, stone_counts, with_kinds,
)

KINDS = [(2, 3, 10, 0), (2, 1, 3, 1)]
WASTE = [0]

# Where a pattern may stand: as the whole, and within other patterns, which fit a slab 5 by 3 if the one there does.
PLACES = (
    ([], []),
    ([2, 2], WASTE),
    ([2, 2, 1, 0], []),
    ([3, 1], WASTE),
    ([3, 2, 0], []),
    ([2, 2, 3, 1], WASTE + WASTE),
    ([2, 2, 1, 0, 3, 2, 0], []),
    ([2, 1, 3, 1, 0, 1, 1, 2, 2], WASTE),
)
# The same within patterns that do not fit: a kind that is not there, a stone of another size, cuts that are too large.
PLACES_THAT_DO_NOT_FIT = (
    ([2, 2, 1, 7], []),
    ([2, 2, 1, 1], []),
    ([2, 2], [1, 7]),
    ([2, 5], WASTE),
    ([3, HIGHEST], WASTE),
    ([2, HIGHEST, 3, 99], WASTE + WASTE),
)


def checked(pattern, width=5, height=3, kinds=KINDS):
    """What check_pattern answers for this pattern of a slab."""
    return last(*with_kinds(width, height, kinds), check_pattern(pattern))


class NoEncoding(unittest.TestCase):
    def check(self, pattern, places=PLACES + PLACES_THAT_DO_NOT_FIT):
        """The pattern is no encoding, as a whole and as a part of another one."""
        for ahead, behind in places:
            self.assertEqual(checked(ahead + pattern + behind), OUT_OF_RANGE, (ahead, pattern, behind))
            self.assertEqual(checked(ahead + pattern + behind, 1, 1, []), OUT_OF_RANGE, (ahead, pattern, behind))

    def test_empty(self):
        self.assertEqual(checked([]), OUT_OF_RANGE)
        self.assertEqual(checked([], 1, 1, []), OUT_OF_RANGE)
        self.assertEqual(checked([], 9, 9, [(9, 9, 999, 1)]), OUT_OF_RANGE)

    def test_no_sign_where_one_is_required(self):
        for sign in (LOWEST, -33, -2, -1, 4, 5, 9, 11, HIGHEST):
            self.check([sign])
            self.check([sign, 0])
            self.check([sign, 1, 0, 0])

    def test_a_negative_number_of_a_kind(self):
        for k in (LOWEST, -33, -2, -1):
            self.check([1, k])
            self.check([2, 2, 1, k, 0])
            self.check([3, 1, 0, 1, k])

    def test_a_cut_ahead_of_the_first_width_or_height(self):
        for c in (LOWEST, -3, -1, 0):
            for sign in (2, 3):
                self.check([sign, c, 0, 0])
                self.check([sign, c, 1, 0, 1, 1])

    def test_ends_too_early(self):
        # Behind each of these beginnings something has to follow, whatever the slab is.
        for beginning in (
            [1], [2], [3], [2, 2], [3, 1], [2, 2, 0], [3, 1, 0], [2, 2, 1], [2, 2, 1, 0], [2, 2, 1, 0, 1], [3, 1, 0, 3],
            [2, 2, 1, 0, 2, 2], [2, 2, 1, 0, 2, 2, 0], [2, 2, 3, 1, 0], [2, 2, 3, 1, 0, 0], [3, 1, 2, 1, 2, 1, 0, 0],
        ):
            self.assertEqual(checked(beginning), OUT_OF_RANGE, beginning)
            self.assertEqual(checked(beginning, 1, 1, []), OUT_OF_RANGE, beginning)
            for ahead in ([2, 2, 1, 0], [3, 2, 0], [2, HIGHEST, 1, 7], [3, 3, 2, 5, 0, 0]):
                self.assertEqual(checked(ahead + beginning), OUT_OF_RANGE, ahead + beginning)

    def test_every_beginning_of_a_best_pattern(self):
        pattern = [2, 1, 3, 1, 0, 1, 1, 2, 2, 1, 0, 1, 0]
        self.assertEqual(checked(pattern), [23, 2, 1])
        for end in range(len(pattern)):
            self.assertEqual(checked(pattern[:end]), OUT_OF_RANGE, end)

    def test_left_over(self):
        for pattern in ([0], [1, 0], [1, 7], [2, 2, 1, 0, 0], [3, 1, 0, 0], [2, 9, 0, 0], [2, 2, 3, 1, 0, 0, 1, 7]):
            for more in ([0], [1], [4], [-1], [1, 0], [0, 0], [LOWEST], [HIGHEST], [2, 2, 0, 0]):
                self.assertEqual(checked(pattern + more), OUT_OF_RANGE, (pattern, more))
                self.assertEqual(checked(pattern + more, 2, 3), OUT_OF_RANGE, (pattern, more))

    def test_a_part_too_many(self):
        for ahead, behind in PLACES + PLACES_THAT_DO_NOT_FIT:
            self.assertEqual(checked(ahead + [0, 0] + behind), OUT_OF_RANGE, (ahead, behind))
            self.assertEqual(checked(ahead + [1, 0, 0] + behind), OUT_OF_RANGE, (ahead, behind))

    def test_the_form_comes_before_the_fit(self):
        for pattern in (
            [1, 7, 0], [1, HIGHEST, 4], [2, 5, 0, 4], [2, 5, 0], [2, HIGHEST, 0, 1, -1], [3, 3, 2, 0, 0, 0, 0],
            [2, 2, 1, 1, 3, 0, 0, 0], [3, 99, 1, 99, 2, 99, 1, 99, 1], [2, 9, 2, 9, 2, 9, 0, 0, 0, -1],
        ):
            self.assertEqual(checked(pattern), OUT_OF_RANGE, pattern)

    def test_long_lists(self):
        for pattern in (
            [2, 1] * 35, [3, 1] * 35, [2, 1, 3, 1] * 17 + [2, 1], [2, HIGHEST] * 35, [2, 1] * 34 + [0, 0], [0] * 70,
            [1, 0] * 35, [1] * 70, [4] * 70, [2, 1, 0] * 23 + [1], [2, 2] * 35, [3, 3] * 35, [LOWEST] * 70,
            [HIGHEST] * 70, [2, 1, 0] * 23, [2, 1, 0] * 22 + [0, 0],
        ):
            self.assertEqual(checked(pattern), OUT_OF_RANGE, pattern)
            self.assertEqual(checked(pattern, 9, 9, [(1, 1, 1, 1)]), OUT_OF_RANGE, pattern)


class NoFit(unittest.TestCase):
    def check(self, pattern, places=PLACES):
        for ahead, behind in places:
            self.assertEqual(checked(ahead + pattern + behind), NO_FIT, (ahead, pattern, behind))

    def test_a_kind_that_is_not_there(self):
        for k in (2, 3, 4, 5, 6, 1000, HIGHEST):
            self.check([1, k])
        for count in range(6):
            for k in (count, count + 1, HIGHEST):
                self.assertEqual(checked([1, k], 1, 1, [(1, 1, 1, 0)] * count), NO_FIT, (count, k))
            for k in range(count):
                counts = [1 if j == k else 0 for j in range(count)]
                self.assertEqual(checked([1, k], 1, 1, [(1, 1, 1, 0)] * count), [1] + counts, (count, k))

    def test_a_kind_that_was_removed(self):
        calls = with_kinds(2, 3, [(1, 1, 1, 0), (2, 3, 10, 0)])
        self.assertEqual(last(*calls, check_pattern([1, 1])), [10, 0, 1])
        self.assertEqual(last(*calls, remove_kind(0), check_pattern([1, 1])), NO_FIT)
        self.assertEqual(last(*calls, remove_kind(0), check_pattern([1, 0])), [10, 1])

    def test_a_piece_that_does_not_match(self):
        for width in range(1, 10):
            for height in range(1, 10):
                plain = [5, 1] if (width, height) == (2, 3) else NO_FIT
                turning = [5, 1] if (width, height) in ((2, 3), (3, 2)) else NO_FIT
                self.assertEqual(checked([1, 0], width, height, [(2, 3, 5, 0)]), plain, (width, height))
                self.assertEqual(checked([1, 0], width, height, [(2, 3, 5, 1)]), turning, (width, height))

    def test_a_part_that_does_not_match(self):
        self.assertEqual(checked([2, 2, 1, 0, 1, 0]), NO_FIT)
        self.assertEqual(checked([2, 3, 1, 0, 0]), NO_FIT)
        self.assertEqual(checked([2, 3, 0, 1, 0]), [10, 1, 0])
        self.assertEqual(checked([3, 1, 1, 1, 0]), NO_FIT)
        self.assertEqual(checked([2, 1, 3, 1, 1, 1, 0, 0]), NO_FIT)

    def test_c_as_large_as_the_piece_and_larger(self):
        for width in range(1, 10):
            for height in (1, 4, 9):
                for c in range(1, width):
                    self.assertEqual(checked([2, c, 0, 0], width, height), [0, 0, 0], (width, height, c))
                    self.assertEqual(checked([3, c, 0, 0], height, width), [0, 0, 0], (height, width, c))
                for c in (width, width + 1, 10, 1000, HIGHEST):
                    self.assertEqual(checked([2, c, 0, 0], width, height), NO_FIT, (width, height, c))
                    self.assertEqual(checked([3, c, 0, 0], height, width), NO_FIT, (height, width, c))

    def test_c_too_large_within_a_part(self):
        for pattern, accepted in (
            ([2, 2, 2, 1, 0, 0, 0], True), ([2, 2, 2, 2, 0, 0, 0], False), ([2, 2, 2, 3, 0, 0, 0], False),
            ([2, 2, 0, 2, 2, 0, 0], True), ([2, 2, 0, 2, 3, 0, 0], False), ([2, 2, 0, 2, 4, 0, 0], False),
            ([2, 2, 3, 2, 0, 0, 0], True), ([2, 2, 3, 3, 0, 0, 0], False), ([2, 2, 0, 3, 3, 0, 0], False),
            ([3, 2, 3, 1, 0, 0, 0], True), ([3, 2, 3, 2, 0, 0, 0], False), ([3, 2, 3, 3, 0, 0, 0], False),
            ([3, 2, 0, 3, 1, 0, 0], False), ([3, 1, 0, 3, 1, 0, 0], True), ([3, 1, 0, 3, 2, 0, 0], False),
            ([3, 2, 2, 4, 0, 0, 0], True), ([3, 2, 2, 5, 0, 0, 0], False), ([3, 2, 0, 2, 5, 0, 0], False),
        ):
            self.assertEqual(checked(pattern), [0, 0, 0] if accepted else NO_FIT, pattern)

    def test_only_the_last_part_does_not_fit(self):
        self.assertEqual(checked([2, 1, 3, 1, 0, 1, 1, 2, 2, 1, 0, 1, 0]), [23, 2, 1])
        for last_part in ([1, 1], [1, 2], [2, 2, 0, 0], [3, 3, 0, 0], [3, 1, 0, 1, 0], [3, 2, 1, 0, 1, 1]):
            pattern = [2, 1, 3, 1, 0, 1, 1, 2, 2, 1, 0] + last_part
            self.assertEqual(checked(pattern), NO_FIT, pattern)

    def test_where_a_turned_stone_and_an_unturned_one_stand(self):
        # The left part is 1 wide and 2 high: only the turned stone fits.
        for may_turn, answer in ((0, NO_FIT), (1, [6, 2])):
            self.assertEqual(checked([2, 1, 1, 0, 1, 0], 2, 2, [(2, 1, 3, may_turn)]), answer)
            self.assertEqual(checked([3, 1, 1, 0, 1, 0], 2, 2, [(1, 2, 3, may_turn)]), answer)
            self.assertEqual(checked([3, 1, 1, 0, 1, 0], 2, 2, [(2, 1, 3, may_turn)]), [6, 2])

    def test_too_many_cuts(self):
        self.assertEqual(checked([2, 1, 0] * 8 + [0], 9, 1), [0, 0, 0])
        self.assertEqual(checked([2, 1, 0] * 9 + [0], 9, 1), NO_FIT)
        self.assertEqual(checked([2, 1, 0] * 22 + [0], 9, 1), NO_FIT)
        self.assertEqual(checked([3, 1, 0] * 8 + [0], 1, 9), [0, 0, 0])
        self.assertEqual(checked([3, 1, 0] * 9 + [0], 1, 9), NO_FIT)


class Accepted(unittest.TestCase):
    def test_waste_alone(self):
        for kinds in ([], KINDS, [(1, 1, 999, 0)] * 5):
            for width, height in ((1, 1), (5, 3), (9, 9)):
                self.assertEqual(checked(WASTE, width, height, kinds), [0] + [0] * len(kinds))

    def test_a_stone_alone(self):
        self.assertEqual(checked([1, 0], 2, 3), [10, 1, 0])
        self.assertEqual(checked([1, 1], 2, 1), [3, 0, 1])
        self.assertEqual(checked([1, 1], 1, 2), [3, 0, 1])
        self.assertEqual(checked([1, 0], 9, 9, [(9, 9, 999, 0)]), [999, 1])
        self.assertEqual(checked([1, 4], 1, 1, [(1, 1, 7, 0)] * 4 + [(1, 1, 0, 0)]), [0, 0, 0, 0, 0, 1])

    def test_patterns_that_are_not_the_best(self):
        self.assertEqual(checked([2, 2, 1, 0, 0]), [10, 1, 0])
        self.assertEqual(checked([2, 2, 0, 2, 2, 1, 0, 0]), [10, 1, 0])
        self.assertEqual(checked([2, 2, 1, 0, 2, 2, 1, 0, 3, 2, 1, 1, 0]), [23, 2, 1])
        self.assertEqual(checked([3, 1, 2, 2, 1, 1, 2, 1, 0, 1, 1, 0]), [6, 0, 2])
        self.assertEqual(checked([1, 0], 1, 1, [(1, 1, 5, 0), (1, 1, 9, 0)]), [5, 1, 0])
        self.assertEqual(checked([2, 1, 1, 0, 1, 0], 2, 1, [(1, 1, 5, 0), (2, 1, 99, 0)]), [10, 2, 0])
        self.assertEqual(checked([2, 1, 1, 1, 1, 0], 2, 1, [(1, 1, 5, 0), (1, 1, 6, 0)]), [11, 1, 1])

    def test_stones_without_value_are_counted(self):
        self.assertEqual(checked([2, 1, 1, 0, 1, 0], 2, 1, [(1, 1, 0, 0)]), [0, 2])
        self.assertEqual(checked([2, 1, 1, 0, 1, 1], 2, 1, [(1, 1, 0, 0), (1, 1, 4, 0)]), [4, 1, 1])

    def test_waste_where_a_pattern_may_stand(self):
        for ahead, behind in PLACES:
            self.assertEqual(len(checked(ahead + WASTE + behind)), 3, (ahead, behind))
        for ahead, behind in PLACES_THAT_DO_NOT_FIT:
            self.assertEqual(checked(ahead + WASTE + behind), NO_FIT, (ahead, behind))

    def test_cuts_through_waste(self):
        self.assertEqual(checked([2, 4, 3, 2, 0, 2, 3, 0, 0, 3, 1, 0, 0]), [0, 0, 0])

    def test_left_and_right_upper_and_lower(self):
        for pattern, width, height, answer in (
            ([2, 2, 1, 0, 1, 1], 5, 1, [7, 1, 1]), ([2, 2, 1, 1, 1, 0], 5, 1, NO_FIT),
            ([2, 3, 1, 1, 1, 0], 5, 1, [7, 1, 1]), ([2, 3, 1, 0, 1, 1], 5, 1, NO_FIT),
            ([3, 2, 1, 0, 1, 1], 1, 5, [7, 1, 1]), ([3, 2, 1, 1, 1, 0], 1, 5, NO_FIT),
            ([3, 3, 1, 1, 1, 0], 1, 5, [7, 1, 1]), ([3, 3, 1, 0, 1, 1], 1, 5, NO_FIT),
        ):
            self.assertEqual(checked(pattern, width, height, [(2, 1, 3, 1), (3, 1, 4, 1)]), answer, (pattern, width))

    def test_deep_ones(self):
        kinds = [(1, 1, 2, 0), (1, 9, 5, 0), (9, 1, 7, 0)]
        self.assertEqual(checked([2, 1, 1, 1] * 8 + [1, 1], 9, 9, kinds), [45, 0, 9, 0])
        self.assertEqual(checked([3, 1, 1, 2] * 8 + [1, 2], 9, 9, kinds), [63, 0, 0, 9])
        # Sixteen cuts, each within the second part of the one ahead of it, then within the first part.
        in_the_second = [2, 1, 0, 3, 1, 0] * 8
        in_the_first = [number for c in range(8, 0, -1) for number in (2, c, 3, c)]
        self.assertEqual(checked(in_the_second + [1, 0], 9, 9, kinds), [2, 1, 0, 0])
        self.assertEqual(checked(in_the_first + [1, 0] + WASTE * 16, 9, 9, kinds), [2, 1, 0, 0])
        self.assertEqual(checked(in_the_second + [2, 1, 0, 0], 9, 9, kinds), NO_FIT)
        self.assertEqual(checked(in_the_first + [3, 1, 0, 0] + WASTE * 16, 9, 9, kinds), NO_FIT)
        self.assertEqual(checked(in_the_first + [1, 0] + WASTE * 15, 9, 9, kinds), OUT_OF_RANGE)
        self.assertEqual(checked(in_the_first + [1, 0] + WASTE * 17, 9, 9, kinds), OUT_OF_RANGE)

    def test_seventy_numbers(self):
        # Eighteen stones and seventeen cuts: nine columns of two stones.
        kinds = [(1, 4, 3, 0), (1, 5, 4, 0), (1, 9, 6, 0)]
        column = [3, 4, 1, 0, 1, 1]
        pattern = ([2, 1] + column) * 8 + column
        self.assertEqual(len(pattern), 70)
        self.assertEqual(checked(pattern, 9, 9, kinds), [63, 9, 9, 0])
        self.assertEqual(checked(pattern, 9, 8, kinds), NO_FIT)
        self.assertEqual(checked(pattern, 8, 9, kinds), NO_FIT)
        self.assertEqual(checked(pattern[:-1] + [0], 9, 9, kinds), NO_FIT)
        self.assertEqual(checked(pattern[:-1] + [-1], 9, 9, kinds), OUT_OF_RANGE)
        # Twenty-four pieces of waste and twenty-three cuts.
        wasted = [2, 1, 3, 1, 0, 3, 1, 0, 0] * 7 + [2, 1, 0, 3, 1, 0, 0]
        self.assertEqual(len(wasted), 70)
        self.assertEqual(checked(wasted, 9, 9, kinds), [0, 0, 0, 0])
        self.assertEqual(checked(wasted, 9, 3, kinds), [0, 0, 0, 0])
        self.assertEqual(checked(wasted, 9, 2, kinds), NO_FIT)
        self.assertEqual(checked(wasted[:-1] + [4], 9, 9, kinds), OUT_OF_RANGE)

    def test_best_patterns(self):
        for kinds in ([], KINDS, KINDS + [(4, 1, 7, 0)], [(3, 2, 6, 1), (5, 1, 9, 0), (1, 1, 0, 0)]):
            for width, height in ((1, 1), (5, 3), (4, 4), (2, 9), (9, 2)):
                calls = with_kinds(width, height, kinds)
                best = last(*calls, best_pattern())
                answer, counts = ask(*calls, check_pattern(best[1:]), stone_counts())[-2:]
                self.assertEqual(answer, best[:1] + counts[1:], (width, height, kinds))

    def test_follows_the_changes(self):
        calls = with_kinds(5, 3, KINDS)
        pattern = [2, 1, 3, 1, 0, 1, 1, 2, 2, 1, 0, 1, 0]
        self.assertEqual(last(*calls, set_value(1, 999), check_pattern(pattern)), [1019, 2, 1])
        self.assertEqual(last(*calls, set_may_turn(1, 0), check_pattern(pattern)), NO_FIT)
        self.assertEqual(last(*calls, set_slab(6, 3), check_pattern(pattern)), NO_FIT)
        self.assertEqual(last(*calls, set_slab(3, 5), check_pattern(pattern)), NO_FIT)
        self.assertEqual(last(*calls, set_slab(9, 9), check_pattern([2, 4, 0, 0])), [0, 0, 0])
        self.assertEqual(last(*calls, create(5, 3), check_pattern(pattern)), NO_FIT)
        self.assertEqual(last(*calls, create(5, 3), check_pattern(WASTE)), [0])


if __name__ == "__main__":
    unittest.main()
