"""[88]: the widest signatures of a missing body, against all signatures within a given one."""

import itertools
import random
import unittest

from helpers import LARGE_HOUSE, ODD_VALUES, THING, error_of
from random_houses import random_hall
from handsroom.errors import NoSuch, TooLarge, Unlike
from handsroom.houses import House
from handsroom.kinds import Hall
from handsroom.missing import widest
from handsroom.signatures import Signature, all_marks, needed_marks
from handsroom.verdicts import Verdict

TEXT = "\n".join([
    "lock a", "lock b", "kind box a f", "kind bag - n", "body other box : +a =a", "body w box bag : ",
    "routine r x:box u:bag", "do make x, make u", "with take a", "do call w x u", "close", "do read x f, keep u n", "done",
]).replace(" : \n", " :\n")
HOUSE = House.read(TEXT)
HALL = HOUSE.hall


def sign(text, hall=HALL):
    return Signature.read(hall, text)


def all_within(upto):
    """All signatures within one."""
    found = []
    for many in range(len(upto.marks) + 1):
        for marks in itertools.combinations(upto.marks, many):
            needed = [need for mark in marks for need in needed_marks(upto.hall, upto.places, mark)]
            if set(needed) <= set(marks):
                signature = Signature(upto.hall, *upto.places, marks=marks)
                if signature.is_giving == upto.is_giving:
                    found.append(signature)
    return found


def ahead(one, other):
    """True if the first mark that only one of two signatures has is one of the first signature."""
    for mark in one.marks + other.marks:
        if (mark in one) != (mark in other):
            order = all_marks(one.hall, one.places)
            least = min(order.index(told) for told in set(one.marks) ^ set(other.marks))
            return order[least] in one
    raise AssertionError


class WidestTest(unittest.TestCase):
    def widest(self, text, house=HOUSE):
        return [one.text() for one in widest(house, "w", sign(text, house.hall))]

    def test_the_given_one_is_right(self):
        self.assertEqual(self.widest("box bag :"), ["box bag :"])
        self.assertEqual(self.widest("box bag : +b box.f"), ["box bag : +b box.f"])

    def test_marks_that_are_never_right(self):
        # Under a the body must not take it; the keep needs the number that was made; the read needs an own object.
        self.assertEqual(self.widest("box* bag : +a +b a>b box.f bag.n"), ["box bag : +b box.f"])

    def test_several_widest_ones(self):
        """Each of two marks alone is right, as there is a ring with both only."""
        house = House.read("lock a\nlock b\nlock c\nkind k - n\nbody w :\nroutine r\nwith take c\ndo call w\nclose\ndo call w\ndone")
        self.assertEqual(self.widest(": +a +b a>b b>a", house), [": +a +b a>b", ": +a +b b>a"])
        house = House.read("lock a\nlock b\nkind k - n\nbody w : +a =a\nroutine r\nwith call w\ndo call w\nclose\ndone")
        self.assertEqual(self.widest(": +a +b =a =b", house), [])
        house = house.with_rows("r", house.routine_of("r").rows[:0])
        self.assertEqual(self.widest(": +a +b =a =b", house), [": +a +b =a =b"])

    def test_the_order(self):
        house = House.read("lock a\nlock b\nlock c\nkind k - n\nbody w :\nroutine r\nwith take c\ndo call w\nclose\ndone\n"
                           "routine s\nwith take a\ndo take c\nclose\ndone\nroutine t\nwith take b\ndo take c\nclose\ndone")
        # With c held the body may take neither a nor b.
        self.assertEqual(self.widest(": +a +b", house), [":"])
        found = self.widest(": +a +b +c a>b a>c b>a", house.with_rows("r", []))
        self.assertEqual(found, [": +a +b +c a>b a>c b>a"])

    def test_there_may_be_none(self):
        house = House.read("kind box - f\nbody w :\nroutine r x:box\ndo keep x f\ndone")
        self.assertEqual(self.widest(": box.f", house), [])
        self.assertIsInstance(widest(house, "w", sign(":", house.hall)), tuple)
        # No other mark mends it.
        self.assertEqual(self.widest(":", house), [])

    def test_a_body_that_nobody_calls(self):
        house = House.read(TEXT.replace("do call w x u", "do skip"))
        text = "box* bag : +a +b a>b box.f bag.n"
        self.assertEqual(self.widest(text, house), [text])

    def test_errors_in_order(self):
        many = sign("box* bag* : +a +b a>b b>a box.f bag.n =a =b")
        for value in list(ODD_VALUES) + [THING, "a", "r"]:
            self.assertEqual(error_of(widest, HOUSE, value, many), ("NoSuch", value))
        wide = sign("box* bag* : +a +b a>b b>a box.f bag.n")
        for upto in (many, sign("box :"), sign(":"), sign("bag box :"), sign("box bag : +a =a"),
                     Signature.fullest(Hall(["a"], ("box", "a", "f"), ("bag", None, "n")), "box", "bag")):
            self.assertEqual(error_of(widest, HOUSE, "w", upto), ("Unlike",))
        self.assertEqual(len(wide), 8)
        self.assertEqual(self.widest(wide.text()), ["box bag* : +b box.f"])
        hall = Hall(["a", "b"], ("box", "a", "f"), ("bag", None, "n", "m"))
        house = House(hall, [("w", sign("box bag :", hall))], HOUSE.routines[:0] + tuple(
            House.read(TEXT.replace("bag - n", "bag - n m").replace("box : +a =a", "box :")).routines))
        upto = sign("box* bag* : +a +b a>b b>a box.f bag.n bag.m", hall)
        self.assertEqual(error_of(widest, house, "w", upto), ("TooLarge", "marks"))
        for call, error in ((lambda: widest(HOUSE, "x", wide), NoSuch), (lambda: widest(HOUSE, "w", many), Unlike),
                            (lambda: widest(house, "w", upto), TooLarge)):
            with self.assertRaises(error):
                call()

    def test_tables_that_are_too_large(self):
        house = House.read(LARGE_HOUSE.replace("routine q", "body w :\nroutine q"))
        self.assertEqual(error_of(widest, house, "w", sign(":", house.hall)), ("TooLarge", "spots"))


class OracleTest(unittest.TestCase):
    def house(self, rng):
        """A small house in which a body is called in several ways, and a signature that its one could be within."""
        while True:
            hall = random_hall(rng, locks=2, kinds=2)
            places = [rng.choice(hall.kinds) for _ in range(rng.randint(0, 1))]
            giving = rng.random() < 0.4
            possible = [mark for mark in all_marks(hall, places) if giving or mark[0] != "gives"]
            many = rng.choice((0.6, 0.95))
            marks = [mark for mark in possible if rng.random() < many]
            marks += [need for mark in marks for need in needed_marks(hall, places, mark)]
            upto = Signature(hall, *places, marks=marks)
            if len(upto) <= 7 and upto.is_giving == giving:
                break
        passed = " ".join(["", "x"][:1 + len(places)])
        call = "call w" + passed
        kind = places[0] if places else hall.kinds[0]
        field = hall.fields_of(kind)[0]
        rows = [rng.choice(["do make x", "do make x", "do skip"]), "do read x " + field if rng.random() < 0.2 else "do skip"]
        for _ in range(rng.randint(1, 2)):
            lock = rng.choice(hall.locks)
            rows += rng.choice([["do " + call], ["do " + call], ["with take " + lock, "do " + call, "close"],
                                ["with " + call, f"do keep x {field}", "close"], [f"do {call}, take {lock}"]])
        rows.append(rng.choice([f"do keep x {field}", f"do read x {field}", "do skip", "do skip"]))
        text = "\n".join([hall.text(), "body w " + upto.text(), f"routine r x:{kind}"] + rows + ["done"])
        if rng.random() < 0.3 and len(hall.locks) > 1:
            text += "\nroutine s\nwith take b\ndo take a\nclose\ndone"
        return House.read(text), upto

    def test_against_all_signatures_within(self):
        rng, sizes, checked = random.Random(88), {}, 0
        for _ in range(130):
            house, upto = self.house(rng)
            signatures = all_within(upto)
            right = [one for one in signatures if Verdict(house.with_signature("w", one)).is_right]
            found = widest(house, "w", upto)
            for one in signatures:
                self.assertEqual(any(one.within(wide) for wide in found), one in right)
            for at, one in enumerate(found):
                self.assertFalse(any(one.within(other) for other in found if other is not one))
                for later in found[at + 1:]:
                    self.assertTrue(ahead(one, later))
            sizes[min(len(found), 2)] = sizes.get(min(len(found), 2), 0) + 1
            checked += 0 < len(right) < len(signatures)
        self.assertGreater(min(sizes[0], sizes[1]), 20, sizes)
        self.assertGreater(sizes.get(2, 0), 1, sizes)
        self.assertGreater(checked, 30)


if __name__ == "__main__":
    unittest.main()
