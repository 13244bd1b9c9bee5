"""[4] to [7]: signatures, their marks, order and written form."""

import itertools
import random
import unittest

from helpers import ODD_VALUES, error_of
from handsroom.kinds import Hall
from handsroom.signatures import Signature

HALL = Hall(["a", "b"], ("box", "a", "size", "n"), ("bag", None, "size"))
SMALL = Hall(["a", "b"], ("box", "a", "n"))
# The order of [5] for two places, written out.
MARKS = (
    ("takes", "a"), ("takes", "b"), ("under", "a", "b"), ("under", "b", "a"), ("writes", "box", "size"),
    ("writes", "box", "n"), ("writes", "bag", "size"), ("gives", "a"), ("gives", "b"), ("shares", 0), ("shares", 1),
)


def needs(places, mark):
    if mark[0] == "under":
        return {("takes", mark[1]), ("takes", mark[2])}
    if mark[0] == "gives" or mark[0] == "writes" and mark[1] == "box" and "box" not in places:
        return {("takes", mark[1] if mark[0] == "gives" else "a")}
    return set()


def signatures(places):
    """All signatures of the small hall with these places."""
    marks = [("takes", "a"), ("takes", "b"), ("under", "a", "b"), ("under", "b", "a"), ("writes", "box", "n"),
             ("gives", "a"), ("gives", "b")] + [("shares", at) for at in range(len(places))]
    found = []
    for size in range(len(marks) + 1):
        for chosen in itertools.combinations(marks, size):
            if all(needs(places, mark) <= set(chosen) for mark in chosen):
                found.append(Signature(SMALL, *places, marks=chosen))
    return found


class PartTest(unittest.TestCase):
    def test_fields_and_order(self):
        full = Signature(HALL, "box", "bag", marks=MARKS[::-1] + MARKS)
        self.assertEqual(full.marks, MARKS)
        self.assertEqual((full.hall, full.places), (HALL, ("box", "bag")))
        self.assertEqual((full.takes, full.gives), (("a", "b"), ("a", "b")))
        self.assertEqual(full.under, (("a", "b"), ("b", "a")))
        self.assertEqual(full.writes, (("box", "size"), ("box", "n"), ("bag", "size")))
        self.assertEqual((full.shares, full.is_giving), ((0, 1), True))
        none = Signature(HALL)
        self.assertEqual((none.marks, none.places, none.is_giving), ((), (), False))
        self.assertIs(none.hall, HALL)

    def test_iteration(self):
        signature = Signature(HALL, "bag", marks=[("shares", 0), ("takes", "b")])
        self.assertEqual((list(signature), len(signature)), ([("takes", "b"), ("shares", 0)], 2))
        self.assertIn(("shares", 0), signature)
        for value in (("takes", "a"), ["takes", "b"], ("shares", False), ("shares", 0.0), "takes", None):
            self.assertNotIn(value, signature)

    def test_equality(self):
        one = Signature(HALL, "bag", marks=[("takes", "b"), ("shares", 0)])
        self.assertTrue(one == Signature(HALL, "bag", marks=(("shares", 0), ("takes", "b"), ("takes", "b"))))
        same = Hall(("a", "b"), *HALL.descriptions)
        self.assertTrue(one == Signature(same, "bag", marks=one.marks))
        self.assertFalse(one == Signature(HALL, "box", marks=one.marks))
        self.assertFalse(one == Signature(HALL, "bag", marks=one.marks[:1]))
        self.assertFalse(Signature(SMALL) == Signature(HALL))
        self.assertFalse(one == one.marks)
        self.assertFalse(one == None)  # noqa: E711

    def test_a_list_that_changes_later_changes_nothing(self):
        marks = [("takes", "b")]
        signature = Signature(HALL, marks=marks)
        marks.append(("takes", "a"))
        self.assertEqual(signature.marks, (("takes", "b"),))
        self.assertEqual(len(marks), 2)

    def assert_rule(self, rule, *places, marks=()):
        self.assertEqual(error_of(Signature, HALL, *places, marks=marks), ("BadPart", rule), (places, marks))

    def test_form(self):
        for value in ODD_VALUES + ("box*", 3):
            self.assert_rule("form", value)
            self.assert_rule("form", "box", value)
            self.assert_rule("form", marks=[value])
            for mark in [("takes", value), ("gives", value), ("under", value, "a"), ("under", "a", value),
                         ("writes", value, "n"), ("writes", "box", value), (value, "a")]:
                self.assert_rule("form", marks=[mark])
            self.assert_rule("form", marks=[("shares", value)] if value != 3 else [("shares", "3")])
        for mark in [("takes",), ("takes", "a", "b"), ("under", "a"), ("under", "a", "a"), ("under", "a", "b", "c"),
                     ("writes", "box"), ("writes", "box", "n", "n"), ("gives",), ("gives", "a", "b"), ("shares",),
                     ("shares", 0, 0), ("shares", "a"), ("owns", "a"), ("owns", "a", "b"), ["takes", "a"], ("take", "a")]:
            self.assert_rule("form", "box", marks=[mark])

    def test_many_unknown_needs(self):
        self.assert_rule("many", "box", "box", "bag", "bag")
        self.assertEqual(len(Signature(HALL, "box", "box", "bag").places), 3)
        self.assert_rule("unknown", "cup")
        for mark in [("takes", "c"), ("gives", "c"), ("under", "a", "c"), ("under", "c", "a"), ("writes", "cup", "n"),
                     ("writes", "bag", "n"), ("shares", 1), ("shares", -1), ("shares", 10 ** 60)]:
            self.assert_rule("unknown", "box", marks=[mark, ("takes", "a"), ("takes", "b")])
        for marks in [[("under", "a", "b")], [("under", "a", "b"), ("takes", "a")], [("gives", "a"), ("takes", "b")],
                      [("under", "a", "b"), ("takes", "b")], [("writes", "box", "n"), ("takes", "b")]]:
            self.assert_rule("needs", marks=marks)
        self.assertEqual(Signature(HALL, "box", marks=[("writes", "box", "n")]).takes, ())
        self.assertEqual(Signature(HALL, marks=[("writes", "bag", "size")]).takes, ())

    def test_the_first_rule_decides(self):
        self.assert_rule("form", "cup", "cup", "cup", "cup", marks=[("takes", "C")])
        self.assert_rule("many", "cup", "cup", "cup", "cup", marks=[("under", "a", "b")])
        self.assert_rule("unknown", marks=[("under", "a", "b"), ("takes", "c")])


    def test_a_field_may_have_the_name_of_its_kind(self):
        hall = Hall(["k"], ("box", "k", "box", "k"))
        signature = Signature(hall, marks=[("writes", "box", "box"), ("takes", "k"), ("writes", "box", "k")])
        self.assertEqual(signature.text(), ": +k box.box box.k")
        self.assertEqual(Signature.read(hall, signature.text()), signature)


class LatticeTest(unittest.TestCase):
    """[6], by looking at all signatures of a small hall."""

    def test_lattice(self):
        for places in [(), ("box",)]:
            known = signatures(places)
            self.assertGreater(len(known), 20)
            for one in known:
                for mark in one:
                    self.check_without(known, one, mark)
                for other in known:
                    self.check_pair(known, one, other)

    def check_pair(self, known, one, other):
        self.assertEqual(one.alike(other), one.is_giving == other.is_giving)
        self.assertEqual(one.within(other), one.alike(other) and set(one) <= set(other))
        if not one.alike(other):
            for join in (lambda: one | other, lambda: one & other):
                self.assertEqual(error_of(join), ("Unlike",))
            return
        joined = one | other
        above = [s for s in known if one.within(s) and other.within(s)]
        self.assertEqual([s for s in above if all(s.within(t) for t in above)], [joined])
        below = [s for s in known if s.within(one) and s.within(other)]
        greatest = [s for s in below if all(t.within(s) for t in below)]
        if greatest:
            self.assertEqual(greatest, [one & other])
        else:
            self.assertEqual(error_of(lambda: one & other), ("Unlike",))

    def check_without(self, known, one, mark):
        below = [s for s in known if s.within(one) and mark not in s]
        greatest = [s for s in below if all(t.within(s) for t in below)]
        if greatest:
            self.assertEqual(greatest, [one - mark])
        else:
            self.assertEqual(error_of(lambda: one - mark), ("Unlike",))

    def test_unlike(self):
        box, bag = Signature(HALL, "box"), Signature(HALL, "bag")
        self.assertEqual(error_of(lambda: box | bag), ("Unlike",))
        self.assertEqual(error_of(lambda: box & bag), ("Unlike",))
        self.assertEqual(error_of(lambda: Signature(SMALL) | Signature(HALL)), ("Unlike",))
        self.assertFalse(box.alike(bag) or box.within(bag) or Signature(SMALL).alike(Signature(HALL)))

    def test_no_such_mark(self):
        giving = Signature(HALL, "box", marks=[("takes", "a"), ("gives", "a"), ("shares", 0)])
        for mark in [("takes", "b"), ("shares", False), ("shares", 1), ["takes", "a"], None, "takes", ("takes",)]:
            self.assertEqual(error_of(lambda: giving - mark), ("NoSuch", mark))
        for mark in [("takes", "a"), ("gives", "a")]:
            self.assertEqual(error_of(lambda: giving - mark), ("Unlike",))
        self.assertEqual((giving - ("shares", 0)).marks, (("takes", "a"), ("gives", "a")))

    def test_operators_change_nothing(self):
        one = Signature(HALL, marks=[("takes", "a")])
        other = Signature(HALL, marks=[("takes", "b")])
        self.assertEqual((one | other).takes, ("a", "b"))
        self.assertEqual(((one & other).marks, (one - ("takes", "a")).marks), ((), ()))
        self.assertEqual((one.marks, other.marks), ((("takes", "a"),), (("takes", "b"),)))

    def test_fullest(self):
        self.assertEqual(Signature.fullest(HALL, "box", "bag", giving=True).marks, MARKS)
        plain = [mark for mark in MARKS if mark[0] != "gives"]
        self.assertEqual(list(Signature.fullest(HALL, "box", "bag")), plain)
        without = Hall([], ("box", None, "n"))
        self.assertEqual(Signature.fullest(without).marks, (("writes", "box", "n"),))
        self.assertEqual(error_of(Signature.fullest, without, giving=True), ("BadPart", "needs"))
        self.assertEqual(error_of(Signature.fullest, without, "cup", giving=True), ("BadPart", "unknown"))
        self.assertEqual(error_of(Signature.fullest, HALL, "box", None), ("BadPart", "form"))
        self.assertEqual(error_of(Signature.fullest, HALL, "x", "x", "x", "x"), ("BadPart", "many"))


class WrittenTest(unittest.TestCase):
    def test_text(self):
        full = Signature(HALL, "box", "bag", marks=MARKS)
        self.assertEqual(full.text(), "box* bag* : +a +b a>b b>a box.size box.n bag.size =a =b")
        self.assertEqual(Signature(HALL).text(), ":")
        self.assertEqual(Signature(HALL, "box", "box", marks=[("shares", 1)]).text(), "box box* :")

    def test_text_and_back(self):
        for places in [(), ("box",), ("box", "box")]:
            for signature in signatures(places):
                again = Signature.read(SMALL, signature.text())
                self.assertEqual(again, signature)
                self.assertEqual(again.text(), signature.text())

    def assert_rule(self, text, rule):
        self.assertEqual(error_of(Signature.read, HALL, text), ("BadPart", rule), text)

    def test_form(self):
        for text in ["", " ", "box", "+a", " :", ": ", ":  +a", "box  :", "box** :", "*box :", "* :", "Box :", "take :",
                     "b*x :", ": a", ": a>", ": >a", ": a>a", ": a>b>a", ": +", ": =", ": ++a", ": +A", ": =a*",
                     ": box.", ": .n", ": box.size.n", ": box*", ": :", ": +a :", ":+a", "box:", ": +a,+b", ": +a\n",
                     ": box.n*", "box. :", "+a :", ": -a", ": +lock", ": +a+b"]:
            self.assert_rule(text, "form")

    def test_other_rules(self):
        self.assert_rule("box box bag bag :", "many")
        self.assert_rule("cup :", "unknown")
        for word in ["+c", "=c", "a>c", "c>a", "cup.n", "bag.n"]:
            self.assert_rule(": +a +b " + word, "unknown")
        for text in [": a>b", ": +a a>b", ": +b a>b", ": =a", ": box.n", ": +b box.n"]:
            self.assert_rule(text, "needs")
        self.assertEqual(Signature.read(HALL, "box : box.n").writes, (("box", "n"),))
        for text in [": +b +a", ": +a +a", ": a>b +a +b", ": +a +b b>a a>b", ": bag.size +a", ": +a box.n box.size",
                     ": +a =a bag.size", ": +a =a =a", ": +a +b =b =a"]:
            self.assert_rule(text, "order")

    def test_the_first_rule_decides(self):
        self.assert_rule("cup cup cup cup : a>b a>b", "many")
        self.assert_rule("cup cup cup cup : a>b A>b", "form")
        self.assert_rule("cup : a>b a>b", "unknown")
        self.assert_rule(": a>b a>b", "needs")
        self.assert_rule(": =a +b", "needs")

    def test_changed_texts(self):
        # A text that is read writes just what was read; the others are compared in test_mutations.
        rng = random.Random(7)
        texts = [one.text() for one in signatures(("box",))]
        for _ in range(3000):
            text = rng.choice(texts)
            at = rng.randrange(len(text) + 1)
            text = text[:at] + rng.choice(["", "a", "b", " ", "+", "*", ">", ":", "=", "."]) + text[at + rng.randrange(2):]
            try:
                read = Signature.read(SMALL, text)
            except ValueError:
                continue
            self.assertEqual(read.text(), text)


if __name__ == "__main__":
    unittest.main()
