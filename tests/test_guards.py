"""[21], [22]: makers, and what ends at a row."""

import unittest

from helpers import BASIC, NO_NUMBERS, ODD_VALUES, THING, WORDS, error_of
from handsroom.guards import ended_at, makers
from handsroom.houses import House

HEAD = "lock a\nlock b\nlock c\nkind k - n\nbody lend k : +a +c =a =c\nbody plain :\n"


def house(*rows):
    return House.read(HEAD + "\n".join(["routine r x:k", *rows, "done"]))


def told(given, name="r"):
    return [(one.tag, one.fate, one.row, one.deed, one.locks, one.end_row) for one in makers(given, name)]


class MakerTest(unittest.TestCase):
    def test_fates_and_end_rows(self):
        given = house("do take a as g, take b, call plain, call lend x", "with skip, take c, call lend x as h",
                      "either", "do call lend x as i, take a", "with take a as j", "close", "or", "do take b as l",
                      "close", "close")
        self.assertEqual(told(given), [
            ("g", "named", 0, 0, ("a",), 10), ("0.1", "loose", 0, 1, ("b",), 0), ("0.3", "loose", 0, 3, ("a", "c"), 0),
            ("1.1", "head", 1, 1, ("c",), 9), ("h", "named", 1, 2, ("a", "c"), 10),
            ("i", "named", 3, 0, ("a", "c"), 6), ("3.1", "loose", 3, 1, ("a",), 3), ("j", "named", 4, 0, ("a",), 6),
            ("l", "named", 7, 0, ("b",), 8)])
        self.assertEqual(makers(house(), "r"), ())
        self.assertIsInstance(makers(given, "r"), tuple)

    def test_no_such_routine(self):
        for value in ODD_VALUES + ("lend", "x", 0, THING):
            self.assertEqual(error_of(makers, House.read(BASIC), value), ("NoSuch", value))
            self.assertEqual(error_of(ended_at, House.read(BASIC), value, None), ("NoSuch", value))

    def test_ended_at(self):
        given = house("do take a as g, take b, call lend x, take c as h", "with take a, take b as i, take c",
                      "do take a as j", "do skip, take b as l, call lend x as m, take a", "drop j", "close", "drop h")
        self.assertEqual([ended_at(given, "r", row) for row in range(8)], [
            ("0.2", "0.1"), (), (), ("3.3",), (), ("m", "l", "j", "1.2", "1.0"), (), ("i", "h", "g")])
        given = house("either", "do take a as g", "or", "do take a as h, take b as i", "close", "repeat",
                      "do take c as j", "close")
        self.assertEqual([ended_at(given, "r", row) for row in range(9)], [
            (), (), ("g",), (), ("i", "h"), (), (), ("j",), ()])

    def test_the_guard_of_a_give_row_is_left_out(self):
        given = house("do take a as g, take b as h, take c as i", "give h")
        self.assertEqual(ended_at(given, "r", 2), ("i", "g"))
        self.assertEqual(ended_at(given, "r", 1), ())
        self.assertEqual(ended_at(House.read(WORDS), "q", 9), ())

    def test_rows(self):
        given = house("do skip", "do skip")
        self.assertEqual(ended_at(given, "r", 2), ())
        for value in NO_NUMBERS + (-1, 3, 10 ** 40):
            self.assertEqual(error_of(ended_at, given, "r", value), ("NoRow", value))
        self.assertEqual(ended_at(house(), "r", 0), ())

    def test_each_guard_ends_once(self):
        for text in (BASIC, WORDS):
            given = House.read(text)
            for one in given.routines:
                tags = [maker.tag for maker in makers(given, one.name)]
                gives = [row.guard for row in one.rows if row.word == "give"]
                ended = [tag for row in range(len(one.rows) + 1) for tag in ended_at(given, one.name, row)]
                self.assertEqual(sorted(ended + gives), sorted(tags))
                for maker in makers(given, one.name):
                    if maker.tag not in gives:
                        self.assertIn(maker.tag, ended_at(given, one.name, maker.end_row))


if __name__ == "__main__":
    unittest.main()
