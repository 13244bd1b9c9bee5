"""[89]: two houses that tell two signatures apart, against their verdicts."""

import random
import unittest

from helpers import error_of
from random_houses import random_hall, random_signature
from handsroom.errors import TooLarge, Unlike
from handsroom.houses import House
from handsroom.kinds import Hall
from handsroom.partinghouses import parting_houses
from handsroom.signatures import Signature, all_marks
from handsroom.verdicts import Verdict

HALL = Hall(["a", "c"], ("box", "a", "f", "g"), ("bag", None, "n", "m"))
HEAD = "lock a\nlock c\nlock z\nkind box a f g\nkind bag - n m\nbody b "


def sign(text, hall=HALL):
    return Signature.read(hall, text)


class RowsTest(unittest.TestCase):
    def rows(self, first, second, *want):
        """The text behind the body line; both houses differ in this line only."""
        houses = parting_houses(sign(first), sign(second))
        self.assertIsInstance(houses, tuple)
        lines = "\n".join(want)
        for house, signature in zip(houses, (second, first)):
            self.assertIs(type(house), House)
            self.assertEqual(house.text(), HEAD + signature + "\n" + lines)
        self.assertEqual([Verdict(house).is_right for house in houses], [True, False])

    def test_takes(self):
        self.rows(": +a", ":", "routine r", "with take z, take a", "do call b", "close", "done")
        self.rows("box bag : +a +c", "box bag : +a", "routine r p0:box p1:bag", "do make p0, make p1", "with take z, take c",
                  "do call b p0 p1", "close", "done")
        # A giving body; its guard has no name.
        self.rows(": +a +c =a", ": +a =a", "routine r", "with take z, take c", "do call b", "close", "done")

    def test_under(self):
        self.rows("box : +a +c a>c", "box : +a +c c>a", "routine r p0:box", "do make p0", "with take z", "do call b p0",
                  "close", "done", "routine s", "with take c", "do take a", "close", "done")

    def test_writes_a_place(self):
        self.rows("bag box box : box.g", "bag box box : box.f", "routine r p0:bag p1:box p2:box", "do make p0, make p1, make p2",
                  "with take z", "do call b p0 p1 p2", "do keep p1 g", "close", "done")

    def test_writes_no_place(self):
        self.rows("bag : +a box.f", "bag : +a", "routine r p0:bag x:box", "do make p0", "with take z", "do take a, read x f",
                  "do call b p0", "do keep x f", "close", "done")
        self.rows(": bag.m", ": bag.n", "routine r x:bag", "with take z", "do read x m", "do call b", "do keep x m", "close", "done")

    def test_gives(self):
        self.rows("box : +a +c =a =c", "box : +a +c =c", "routine r p0:box", "do make p0", "with take z", "do call b p0 as q",
                  "do take a", "close", "done")

    def test_shares(self):
        self.rows("bag box* :", "bag box :", "routine r p0:bag p1:box", "do make p0, make p1", "with take z", "do call b p0 p1",
                  "do write p1 f", "close", "done")
        self.rows("bag* box* :", "bag box* :", "routine r p0:bag p1:box", "do make p0, make p1", "with take z",
                  "do call b p0 p1", "do write p0 n", "do keep p0 n", "close", "done", "routine s y:bag",
                  "do fetch y, write y n", "done")

    def test_the_first_mark_that_is_missing_decides(self):
        self.rows("box* : +a +c a>c box.f bag.n", "box : +c bag.n", "routine r p0:box", "do make p0", "with take z, take a",
                  "do call b p0", "close", "done")

    def test_within(self):
        for first, second in ((":", ":"), ("box :", "box* : +a box.f"), (": +a =a", ": +a +c =a")):
            self.assertIsNone(parting_houses(sign(first), sign(second)))

    def test_errors(self):
        for first, second in ((":", "box :"), (": +a", ": +a =a"), ("box bag :", "bag box :")):
            self.assertEqual(error_of(parting_houses, sign(first), sign(second)), ("Unlike",))
        self.assertEqual(error_of(parting_houses, sign(":"), sign(":", Hall(["a"], ("box", "a", "f")))), ("Unlike",))
        large = Hall(["a", "b", "c", "d"], ("box", "a", "f"))
        self.assertEqual(error_of(parting_houses, sign(": +d", large), sign(":", large)), ("TooLarge", "locks"))
        self.assertIsNone(parting_houses(sign(":", large), sign(": +d", large)))
        self.assertEqual(error_of(parting_houses, sign(": +d", large), sign("box :", large)), ("Unlike",))
        for call, error in ((lambda: parting_houses(sign(":"), sign("box :")), Unlike),
                            (lambda: parting_houses(sign(": +d", large), sign(":", large)), TooLarge)):
            with self.assertRaises(error):
                call()


class NamesTest(unittest.TestCase):
    def names(self, hall):
        """The names of the lock, the body and the routines in the houses of a hall."""
        if hall.locks == ():
            first = Signature(hall, hall.kinds[0], marks=[("shares", 0)])
        else:
            one, two = hall.locks[:2]
            first = Signature(hall, marks=[("takes", one), ("takes", two), ("under", one, two)])
        second = Signature(hall, *first.places, marks=first.marks[:-1])
        one, two = parting_houses(first, second)
        self.assertEqual((one.hall, one.routines), (two.hall, two.routines))
        self.assertEqual(one.locks[:-1], hall.locks)
        self.assertEqual([Verdict(house).is_right for house in (one, two)], [True, False])
        return (one.locks[-1], one.bodies[0][0]) + tuple(routine.name for routine in one.routines)

    def test_names_that_are_free(self):
        self.assertEqual(self.names(HALL), ("z", "b", "r", "s"))

    def test_names_of_locks_and_kinds(self):
        self.assertEqual(self.names(Hall(["z", "b"], ("r", "z", "f"))), ("z0", "b0", "r0", "s"))
        self.assertEqual(self.names(Hall(["z", "z0", "s"], ("z2", "z", "f"), ("s0", None, "f"), ("b", "z", "f"))),
                         ("z1", "b0", "r", "s1"))
        self.assertEqual(self.names(Hall(["b0", "b1"], ("b", "b0", "f"))), ("z", "b2", "r", "s"))
        self.assertEqual(self.names(Hall([], ("s", None, "s"), ("r", None, "r"))), ("z", "b", "r0", "s0"))

    def test_fields_objects_and_guards_may_have_any_names(self):
        hall = Hall(["q", "x"], ("p0", "x", "z", "b"), ("y", None, "r", "s"))
        for text, other in (("p0 y* : +q +x =q =x", "p0 y : +q +x =q =x"), ("p0 y : +q +x =q =x", "p0 y : +q +x =x"),
                            (": +x p0.z", ": +x"), (": y.s", ":"), ("y p0* :", "y p0 :"), (": +q +x x>q", ": +q +x q>x")):
            houses = parting_houses(sign(text, hall), sign(other, hall))
            self.assertEqual([Verdict(house).is_right for house in houses], [True, False])
            self.assertEqual(houses[0].locks, ("q", "x", "z"))


class OracleTest(unittest.TestCase):
    def test_random_signatures(self):
        rng, words = random.Random(89), {}
        for _ in range(400):
            hall = random_hall(rng, locks=3, kinds=3)
            places = [rng.choice(hall.kinds) for _ in range(rng.randint(0, 3))]
            first, second = [random_signature(rng, hall, places, 0.6) for _ in range(2)]
            if rng.random() < 0.7:
                # Only few marks apart.
                marks = [mark for mark in first.marks if rng.random() < 0.9 or mark[0] == "gives"]
                marks = [mark for mark in marks if all(need in marks for need in self.needs(first, mark))]
                second = Signature(hall, *places, marks=[mark for mark in marks if all(
                    need in marks for need in self.needs(first, mark))])
            if not first.alike(second):
                self.assertEqual(error_of(parting_houses, first, second), ("Unlike",))
                continue
            houses = parting_houses(first, second)
            self.assertEqual(houses is None, first.within(second))
            if houses is not None:
                told = [signature for house in houses for _, signature in house.bodies]
                self.assertEqual([one.marks for one in told], [second.marks, first.marks])
                self.assertEqual([Verdict(house).is_right for house in houses], [True, False])
                missing = [mark for mark in all_marks(hall, places) if mark in first and mark not in second]
                words[missing[0][0]] = words.get(missing[0][0], 0) + 1
        self.assertEqual(sorted(words), ["gives", "shares", "takes", "under", "writes"])
        self.assertGreater(min(words.values()), 3, words)

    def needs(self, signature, mark):
        from handsroom.signatures import needed_marks
        return needed_marks(signature.hall, signature.places, mark)


if __name__ == "__main__":
    unittest.main()
