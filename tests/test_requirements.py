"""Requirements 1 to 5, against patterns gone through one by one and another plain reckoning."""

import itertools
import unittest

from asking import (
    LONGEST_ROW, MOST_CALLS, NO_FIT, OUT_OF_RANGE, ask, best_of, best_pattern, check_pattern, create, max_of, max_value,
    max_value_if_value, max_value_without, min_height, set_slab, stone_counts, values_for_height, waste_area,
    with_kinds, worths_of,
)

SMALL_SLABS = ((1, 1), (2, 1), (1, 2), (3, 1), (1, 3), (2, 2), (5, 1), (1, 5), (3, 2), (2, 3))


def kind_lists(how_many, side, value):
    """Lists of 0 to 5 kinds with sides up to `side` and values up to `value`, the same at every run."""
    state = 1
    lists = []
    for number in range(how_many):
        kinds = []
        for place in range(number % 6):
            drawn = []
            for limit in (side, side, value + 1, 2):
                state = (state * 1103515245 + 12345) % 2147483648
                drawn.append(state // 65536 % limit)
            kinds.append((drawn[0] + 1, drawn[1] + 1, drawn[2], drawn[3]))
        lists.append(kinds)
    return lists


def matching(kinds, x, y):
    """The numbers of the kinds that a piece matches."""
    sizes = [{(w, h), (h, w)} if may_turn else {(w, h)} for w, h, value, may_turn in kinds]
    return [k for k, size in enumerate(sizes) if (x, y) in size]


def all_patterns(kinds, x, y, known):
    """Every pattern for a piece: its value and its encoding."""
    if (x, y) not in known:
        patterns = [(0, (0,))]
        patterns += [(kinds[k][2], (1, k)) for k in matching(kinds, x, y)]
        cuts = [(2, c, (c, y), (x - c, y)) for c in range(1, x)]
        cuts += [(3, c, (x, c), (x, y - c)) for c in range(1, y)]
        for sign, c, one, other in cuts:
            for value, encoding in all_patterns(kinds, *one, known):
                for more, behind in all_patterns(kinds, *other, known):
                    patterns.append((value + more, (sign, c) + encoding + behind))
        known[(x, y)] = patterns
    return known[(x, y)]


def counts_of(kinds, stones):
    """For each kind, how many of these stones are of it."""
    return [stones.count(k) for k in range(len(kinds))]


def checked(kinds, width, height, patterns):
    """What check_pattern answers for each of these patterns of a slab."""
    beginning = with_kinds(width, height, kinds)
    at_once = MOST_CALLS - len(beginning)
    answered = []
    for start in range(0, len(patterns), at_once):
        asked = [check_pattern(pattern) for pattern in patterns[start:start + at_once]]
        answered += ask(*beginning, *asked)[len(beginning):]
    return answered


def encodings(numbers, length, known):
    """Every encoding of a pattern, fitting or not, that has this length and consists of these numbers."""
    if length not in known:
        made = [(0,)] if length == 1 else []
        if length == 2:
            made += [(1, k) for k in numbers if k >= 0]
        for one in range(1, length - 2):
            for parts in itertools.product(encodings(numbers, one, known), encodings(numbers, length - 2 - one, known)):
                made += [(sign, c) + parts[0] + parts[1] for sign in (2, 3) for c in numbers if c >= 1]
        known[length] = made
    return known[length]


def reckoned(kinds, x, y, known):
    """The maximum value of a piece, reckoned from the whole piece down to its parts."""
    if (x, y) not in known:
        worths = [0] + [kinds[k][2] for k in matching(kinds, x, y)]
        worths += [reckoned(kinds, c, y, known) + reckoned(kinds, x - c, y, known) for c in range(1, x)]
        worths += [reckoned(kinds, x, c, known) + reckoned(kinds, x, y - c, known) for c in range(1, y)]
        known[(x, y)] = max(worths)
    return known[(x, y)]


def stones_of(kinds, encoding, x, y):
    """The numbers of the kinds of a pattern's stones, and what is left of the encoding; fails if it doesn't fit."""
    sign = encoding[0]
    if sign == 0:
        return [], encoding[1:]
    if sign == 1:
        if encoding[1] not in matching(kinds, x, y):
            raise AssertionError(f"kind {encoding[1]} at a piece {x} by {y}")
        return [encoding[1]], encoding[2:]
    c = encoding[1]
    if not (sign in (2, 3) and 1 <= c < (x if sign == 2 else y)):
        raise AssertionError(f"{sign}, {c} at a piece {x} by {y}")
    parts = [(c, y), (x - c, y)] if sign == 2 else [(x, c), (x, y - c)]
    stones, behind = stones_of(kinds, encoding[2:], *parts[0])
    more, rest = stones_of(kinds, behind, *parts[1])
    return stones + more, rest


class AgainstEveryPattern(unittest.TestCase):
    def check(self, kinds, width, height):
        patterns = all_patterns(kinds, width, height, {})
        greatest = max(value for value, encoding in patterns)
        # By the rules waste comes ahead of a stone, this of a vertical and this of a horizontal cut, small numbers
        # ahead of great ones, the first part ahead of the second: just as most valuable encodings are sorted.
        first = min(encoding for value, encoding in patterns if value == greatest)
        parts = ask(*with_kinds(width, height, kinds), max_value(), best_pattern())
        self.assertEqual(parts[-2], [greatest], (width, height, kinds))
        self.assertEqual(parts[-1], [greatest, *first], (width, height, kinds))

    def test_small_slabs(self):
        for kinds in kind_lists(30, 3, 4) + kind_lists(30, 2, 2):
            for width, height in SMALL_SLABS:
                self.check(kinds, width, height)

    def test_ties(self):
        for kinds in (
            [(1, 1, 1, 0), (1, 2, 2, 1), (2, 2, 4, 0)],
            [(2, 1, 1, 0), (1, 2, 1, 0), (1, 1, 0, 0)],
            [(1, 1, 1, 1), (1, 1, 1, 0), (2, 1, 2, 0)],
            [(3, 1, 3, 1), (2, 1, 2, 1), (1, 1, 1, 1)],
        ):
            for width, height in SMALL_SLABS:
                self.check(kinds, width, height)


class AgainstAnotherReckoning(unittest.TestCase):
    def test_every_piece_of_the_largest_slab(self):
        for kinds in kind_lists(48, 9, 999) + kind_lists(48, 4, 20):
            known = {}
            for piece, worth in worths_of(kinds, 9, 9).items():
                self.assertEqual(worth, reckoned(kinds, *piece, known), (piece, kinds))


class JoinedPieces(unittest.TestCase):
    def test_worth_at_most_what_they_form(self):
        for kinds in kind_lists(36, 5, 99):
            worths = worths_of(kinds, 9, 9)
            for (x, y), worth in worths.items():
                for c in range(1, x):
                    self.assertLessEqual(worths[(c, y)] + worths[(x - c, y)], worth, (x, y, c, kinds))
                for c in range(1, y):
                    self.assertLessEqual(worths[(x, c)] + worths[(x, y - c)], worth, (x, y, c, kinds))


class TurnedSlab(unittest.TestCase):
    def test_worth_the_same_if_all_kinds_may_be_turned(self):
        for kinds in kind_lists(36, 5, 99):
            turning = [kind[:3] + (1,) for kind in kinds]
            worths = worths_of(turning, 9, 9)
            for (x, y), worth in worths.items():
                self.assertEqual(worths[(y, x)], worth, (x, y, turning))
            for width, height in ((9, 4), (2, 7), (5, 6)):
                calls = with_kinds(width, height, turning)
                parts = ask(*calls, max_value(), set_slab(height, width), max_value(), create(1, 1))
                self.assertEqual(parts[-4], parts[-2], (width, height, turning))

    def test_not_so_if_a_kind_may_not_be_turned(self):
        kinds = [(1, 3, 5, 0), (2, 2, 1, 1)]
        self.assertEqual((max_of(1, 3, kinds), max_of(3, 1, kinds)), ([5], [0]))


class OtherSizesAndKinds(unittest.TestCase):
    """The queries about other heights, fewer kinds and other values, against the other plain reckoning."""

    def test_values_for_height(self):
        for kinds in kind_lists(24, 5, 99):
            known = {}
            for width, height in ((9, 9), (4, 7), (1, 3)):
                beginning = with_kinds(width, height, kinds)
                asked = [values_for_height(y) for y in range(1, height + 1)]
                for y, part in enumerate(ask(*beginning, *asked)[len(beginning):], start=1):
                    expected = [width] + [reckoned(kinds, x, y, known) for x in range(1, width + 1)]
                    self.assertEqual(part, expected, (width, height, y, kinds))

    def test_without_a_kind_and_with_another_value(self):
        for number, kinds in enumerate(kind_lists(36, 5, 99)):
            width, height = 4 + number % 6, 9 - number % 4
            beginning = with_kinds(width, height, kinds)
            for k, kind in enumerate(kinds):
                others = kinds[:k] + kinds[k + 1:]
                asked = [max_value_without(k)]
                expected = [[reckoned(others, width, height, {})]]
                for value in (0, 50, 999):
                    changed = kinds[:k] + [kind[:2] + (value,) + kind[3:]] + kinds[k + 1:]
                    asked.append(max_value_if_value(k, value))
                    expected.append([reckoned(changed, width, height, {})])
                self.assertEqual(ask(*beginning, *asked)[len(beginning):], expected, (k, width, height, kinds))

    def test_min_height(self):
        for number, kinds in enumerate(kind_lists(36, 5, 99)):
            width, height = 1 + number % 9, 1 + number % 7
            beginning = with_kinds(width, height, kinds)
            known = {}
            worths = [reckoned(kinds, width, y, known) for y in range(1, 10)]
            values = sorted({0, 1, *worths, *[worth + 1 for worth in worths]})
            least = [[y for y in range(1, 10) if worths[y - 1] >= value][:1] or NO_FIT for value in values]
            asked = [min_height(value) for value in values]
            self.assertEqual(ask(*beginning, *asked)[len(beginning):], least, (width, height, kinds))


class AreaAndValue(unittest.TestCase):
    def check(self, kinds, width, height):
        calls = with_kinds(width, height, kinds)
        answer, counts, wasted = ask(*calls, best_pattern(), stone_counts(), waste_area())[-3:]
        stones, rest = stones_of(kinds, answer[1:], width, height)
        self.assertEqual(rest, [], (width, height, kinds))
        self.assertEqual(answer[0], sum(kinds[k][2] for k in stones), (width, height, kinds))
        area = sum(kinds[k][0] * kinds[k][1] for k in stones)
        self.assertLessEqual(area, width * height, (width, height, kinds))
        self.assertEqual(counts, [len(stones)] + counts_of(kinds, stones), (width, height, kinds))
        self.assertEqual(wasted, [width * height - area], (width, height, kinds))

    def test_stones_of_best_patterns(self):
        for kinds in kind_lists(36, 9, 999) + kind_lists(36, 4, 20):
            for width, height in ((9, 9), (1, 9), (9, 1), (8, 5), (3, 7), (4, 4)):
                self.check(kinds, width, height)


class Encoding(unittest.TestCase):
    def test_best_patterns_are_accepted_with_their_values(self):
        accepted = 0
        for kinds in kind_lists(36, 9, 999) + kind_lists(36, 4, 20):
            for width, height in ((9, 9), (1, 9), (9, 1), (8, 5), (3, 7), (4, 4), (2, 5), (5, 2), (3, 3)):
                best = best_of(width, height, kinds)
                # A longer row can't be handed in.
                if len(best) - 1 <= LONGEST_ROW:
                    calls = with_kinds(width, height, kinds)
                    answer, counts = ask(*calls, check_pattern(best[1:]), stone_counts())[-2:]
                    self.assertEqual(answer, best[:1] + counts[1:], (width, height, kinds))
                    accepted += 1
        self.assertGreater(accepted, 500)

    def test_every_pattern_of_small_slabs_is_accepted(self):
        for kinds in kind_lists(6, 3, 4) + [[(1, 1, 1, 0), (1, 2, 0, 1), (2, 2, 9, 0)]]:
            for width, height in ((1, 1), (3, 1), (1, 3), (2, 2)):
                patterns = all_patterns(kinds, width, height, {})
                answered = checked(kinds, width, height, [encoding for value, encoding in patterns])
                for (value, encoding), answer in zip(patterns, answered):
                    stones, rest = stones_of(kinds, encoding, width, height)
                    self.assertEqual(answer, [value] + counts_of(kinds, stones), (encoding, width, height, kinds))

    def test_every_short_list(self):
        numbers = (-1, 0, 1, 2, 3, 4)
        lists = [row for length in range(6) for row in itertools.product(numbers, repeat=length)]
        lists += list(itertools.product((0, 1, 2, 3), repeat=6))
        known = {}
        formed = {encoding for length in range(1, 7) for encoding in encodings(numbers, length, known)}
        for width, height, kinds in (
            (2, 2, [(1, 2, 5, 0), (2, 1, 4, 1), (2, 2, 1, 1)]), (3, 1, [(1, 1, 3, 0), (2, 1, 7, 0)]), (1, 3, []),
        ):
            fitting = dict((encoding, value) for value, encoding in all_patterns(kinds, width, height, {}))
            for row, answer in zip(lists, checked(kinds, width, height, lists)):
                expected = OUT_OF_RANGE if row not in formed else NO_FIT
                if row in fitting:
                    stones, rest = stones_of(kinds, row, width, height)
                    expected = [fitting[row]] + counts_of(kinds, stones)
                self.assertEqual(answer, expected, (row, width, height, kinds))


if __name__ == "__main__":
    unittest.main()
