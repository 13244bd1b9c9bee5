"""[1], [2]: rules, names and reserved words."""

import unittest

from helpers import ODD_VALUES
from handsroom.words import RESERVED, RULES, is_name


class WordTest(unittest.TestCase):
    def test_tables(self):
        self.assertEqual(RESERVED, tuple(
            "lock, kind, body, routine, done, do, with, block, either, or, repeat, close, drop, give, skip, make, "
            "copy, fetch, read, keep, write, put, call, take, as".split(", ")))
        self.assertEqual(RULES, (
            "form", "place", "many", "pair", "twice", "scope", "unknown", "fit", "needs", "order", "end"))

    def test_names(self):
        for value in ["a", "z", "a0", "z9z9z9z9", "abcdefgh", "locks", "doo", "end", "under", "n0", "x"]:
            self.assertIs(is_name(value), True, value)

    def test_no_names(self):
        for value in ODD_VALUES + RESERVED:
            self.assertIs(is_name(value), False, value)
        for value in ["0a", "abcdefghi", "a_b", "a-b", "aB", "a ", " a", "a\n", "\u00e4", "a\u0663", "a.b", 0, 1, -1]:
            self.assertIs(is_name(value), False, value)


if __name__ == "__main__":
    unittest.main()
