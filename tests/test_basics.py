"""Point 2: what is an INTEGER, a COUNT."""

import unittest

from lonetill.basics import is_count, is_integer
from tests.odd import ANY, NO_COUNTS, NO_INTEGERS


class Basics(unittest.TestCase):
    def test_integers(self):
        for value in (0, 1, -1, 10 ** 30, -(10 ** 29)):
            self.assertIs(is_integer(value), True)
        for value in NO_INTEGERS:
            self.assertIs(is_integer(value), False)

    def test_counts(self):
        for value in (0, 1, 10 ** 30):
            self.assertIs(is_count(value), True)
        for value in NO_COUNTS:
            self.assertIs(is_count(value), False)

    def test_any_value_by_name(self):
        for value in ANY:
            self.assertIsInstance(is_integer(value=value), bool)
            self.assertIsInstance(is_count(value=value), bool)


if __name__ == "__main__":
    unittest.main()
