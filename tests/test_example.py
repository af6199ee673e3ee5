"""The document's example, whole, and the one in README.md."""

import doctest
import pathlib
import unittest

from asking import (
    add_kind, ask, best_pattern, check_pattern, create, max_value, max_value_of, min_height, stone_counts, waste_area,
)
from slabsaw.cuts import answers


class Example(unittest.TestCase):
    def test_calls_in_their_order(self):
        answered = ask(
            create(5, 3),
            add_kind(2, 3, 10, 0),
            add_kind(2, 1, 3, 1),
            max_value(),
            best_pattern(),
            stone_counts(),
            waste_area(),
            check_pattern([2, 2, 1, 0, 0]),
            check_pattern([1, 0]),
            check_pattern([2, 2, 1]),
            max_value_of(3, 2),
            min_height(12),
            add_kind(10, 1, 1, 0),
        )
        self.assertEqual(
            answered,
            [
                [0], [0], [1], [23], [23, 2, 1, 3, 1, 0, 1, 1, 2, 2, 1, 0, 1, 0], [3, 2, 1], [1],
                [10, 1, 0], [-33], [-22], [9], [2], [-22],
            ],
        )

    def test_as_whole_numbers(self):
        calls = [0, 5, 3, 1, 2, 3, 10, 0, 1, 2, 1, 3, 1, 6, 8, 9, 10]
        calls += [11, 5, 2, 2, 1, 0, 0, 11, 2, 1, 0, 11, 3, 2, 2, 1, 7, 3, 2, 15, 12, 1, 10, 1, 1, 0]
        expected = [1, 0, 1, 0, 1, 1, 1, 23, 14, 23, 2, 1, 3, 1, 0, 1, 1, 2, 2, 1, 0, 1, 0, 3, 3, 2, 1, 1, 1]
        expected += [3, 10, 1, 0, 1, -33, 1, -22, 1, 9, 1, 2, 1, -22]
        self.assertEqual(answers(calls), expected)

    def test_readme(self):
        readme = pathlib.Path(__file__).resolve().parent.parent / "README.md"
        found = doctest.testfile(str(readme), module_relative=False)
        self.assertEqual((found.failed, found.attempted), (0, 3))


if __name__ == "__main__":
    unittest.main()
