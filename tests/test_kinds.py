"""[3]: halls."""

import unittest

from helpers import ODD_VALUES, error_of
from handsroom.errors import NoSuch
from handsroom.kinds import Hall


class HallTest(unittest.TestCase):
    def setUp(self):
        self.hall = Hall(["a", "b"], ("box", "a", "size"), ("bag", None, "size", "box"), ("cup", "a", "a"))

    def test_fields(self):
        self.assertEqual(self.hall.locks, ("a", "b"))
        self.assertEqual(self.hall.kinds, ("box", "bag", "cup"))
        self.assertEqual(self.hall.descriptions, (
            ("box", "a", "size"), ("bag", None, "size", "box"), ("cup", "a", "a")))
        self.assertEqual(self.hall.sorts, (("box", "size"), ("bag", "size"), ("bag", "box"), ("cup", "a")))

    def test_text(self):
        self.assertEqual(self.hall.text(), "lock a\nlock b\nkind box a size\nkind bag - size box\nkind cup a a")
        self.assertEqual(Hall([], ("k", None, "n")).text(), "kind k - n")

    def test_questions(self):
        self.assertEqual([self.hall.guard_of(kind) for kind in self.hall.kinds], ["a", None, "a"])
        self.assertEqual(self.hall.fields_of("bag"), ("size", "box"))
        self.assertEqual(self.hall.fields_of("box"), ("size",))
        for value in ("a", "size", "nokind", None, 0, True, ["box"], ("box",)):
            self.assertEqual(error_of(self.hall.guard_of, value), ("NoSuch", value))
            self.assertEqual(error_of(self.hall.fields_of, value), ("NoSuch", value))
        with self.assertRaises(NoSuch):
            self.hall.fields_of("")

    def test_equality(self):
        same = Hall(("a", "b"), ("box", "a", "size"), ("bag", None, "size", "box"), ("cup", "a", "a"))
        self.assertTrue(self.hall == same)
        self.assertFalse(self.hall != same)
        self.assertFalse(self.hall == Hall(("b", "a"), *self.hall.descriptions))
        self.assertFalse(self.hall == Hall(("a", "b"), *self.hall.descriptions[:2]))
        self.assertFalse(self.hall == Hall(("a", "b"), *self.hall.descriptions[::-1]))
        for value in ODD_VALUES:
            self.assertFalse(self.hall == value)

    def test_a_list_that_changes_later_changes_nothing(self):
        locks = ["a"]
        hall = Hall(locks, ("box", "a", "size"))
        locks.append("b")
        self.assertEqual((hall.locks, hall.text()), (("a",), "lock a\nkind box a size"))

    def test_bounds(self):
        kinds = [("k1", None, "n"), ("k2", "d", "n", "m"), ("k3", "a", "k3")]
        self.assertEqual(len(Hall(["a", "b", "c", "d"], *kinds).sorts), 4)
        self.assertEqual(len(Hall([], kinds[0]).locks), 0)

    def assert_fault(self, line, rule, locks, *descriptions):
        self.assertEqual(error_of(Hall, locks, *descriptions), ("BadLine", line, rule), (locks, descriptions))

    def test_form(self):
        for value in ODD_VALUES + ("-", "take", 7):
            self.assert_fault(2, "form", ["a", value], ("k", None, "n"))
            self.assert_fault(2, "form", ["a"], value, ("k", None, "n"))
            self.assert_fault(2, "form", ["a"], (value, None, "n"))
            self.assert_fault(2, "form", ["a"], ("k", "a", value))
            self.assert_fault(2, "form", ["a"], ("k", "a", "n", value))
            if value is not None:
                self.assert_fault(2, "form", ["a"], ("k", value, "n"))
        for value in [["k", None, "n"], ("k", None), ("k", "a"), ("k",), ("k", None, "f", "g", "h"), "k - n"]:
            self.assert_fault(1, "form", [], value)

    def test_many(self):
        self.assert_fault(5, "many", ["a", "b", "c", "d", "e"], ("k", None, "n"))
        rows = [("k", None, "n"), ("l", None, "n"), ("m", None, "n"), ("o", None, "n")]
        self.assert_fault(5, "many", ["a"], *rows)

    def test_twice(self):
        self.assert_fault(2, "twice", ["a", "a"], ("k", None, "n"))
        self.assert_fault(3, "twice", ["a", "b"], ("b", None, "n"))
        self.assert_fault(3, "twice", ["a"], ("k", None, "n"), ("k", "a", "n"))
        self.assert_fault(2, "twice", ["a"], ("k", "a", "n", "n"))

    def test_unknown_and_end(self):
        self.assert_fault(2, "unknown", ["a"], ("k", "b", "n"))
        self.assert_fault(1, "unknown", [], ("k", "k", "n"))
        self.assert_fault(1, "end", [])
        self.assert_fault(5, "end", ["a", "b", "c", "d"])

    def test_the_first_line_and_the_first_rule_decide(self):
        self.assert_fault(2, "twice", ["a", "a", "-"], ("k", None))
        self.assert_fault(5, "form", ["a", "b", "c", "d", "A"])
        self.assert_fault(5, "many", ["a", "b", "c", "d", "a"])
        rows = [("k", None, "n"), ("l", None, "n"), ("m", None, "n")]
        self.assert_fault(4, "many", [], *rows, ("k", "z", "n", "n"))
        self.assert_fault(4, "form", [], *rows, ("k", "z", "n", "N"))
        self.assert_fault(2, "twice", ["a"], ("a", "z", "n"))
        self.assert_fault(2, "twice", ["a"], ("k", "z", "n", "n"))
        self.assert_fault(1, "form", ["A"])


if __name__ == "__main__":
    unittest.main()
