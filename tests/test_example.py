"""The document's example, as far as calls 0 to 8 go, and the one in README.md."""

import doctest
import pathlib
import unittest

from asking import add_kind, ask, best_pattern, create, max_value, max_value_of
from slabsaw.cuts import answers


class Example(unittest.TestCase):
    def test_calls_in_their_order(self):
        answered = ask(
            create(5, 3),
            add_kind(2, 3, 10, 0),
            add_kind(2, 1, 3, 1),
            max_value(),
            best_pattern(),
            max_value_of(3, 2),
            add_kind(10, 1, 1, 0),
        )
        self.assertEqual(
            answered,
            [[0], [0], [1], [23], [23, 2, 1, 3, 1, 0, 1, 1, 2, 2, 1, 0, 1, 0], [9], [-22]],
        )

    def test_as_whole_numbers(self):
        calls = [0, 5, 3, 1, 2, 3, 10, 0, 1, 2, 1, 3, 1, 6, 8, 7, 3, 2, 1, 10, 1, 1, 0]
        self.assertEqual(
            answers(calls),
            [1, 0, 1, 0, 1, 1, 1, 23, 14, 23, 2, 1, 3, 1, 0, 1, 1, 2, 2, 1, 0, 1, 0, 1, 9, 1, -22],
        )

    def test_readme(self):
        readme = pathlib.Path(__file__).resolve().parent.parent / "README.md"
        found = doctest.testfile(str(readme), module_relative=False)
        self.assertEqual((found.failed, found.attempted), (0, 2))


if __name__ == "__main__":
    unittest.main()
