"""[17] to [19], and what houses.py says of [20]."""

import unittest

from helpers import BASIC, FULL, ODD_VALUES, TEXTS, THING, WORDS, error_of
from random_houses import random_house
from text_oracle import first_fault
from handsroom.houses import House
from handsroom.kinds import Hall
from handsroom.routines import Routine
from handsroom.rows import Row
from handsroom.signatures import Signature

HEAD = ["lock a", "lock b", "kind box a size", "kind bag - left right", "body fill box bag : +a bag.left",
        "body lend : +b =b"]


def fault(*lines):
    """The line and the rule with which a text is refused; the oracle must say the same."""
    text = "\n".join(lines)
    found = error_of(House.read, text)
    found = found and found[1:]
    assert found == first_fault(text), (text, found, first_fault(text))
    return found


def row_fault(*rows, names="x:box y:box z:bag u:bag"):
    """The same for rows behind good lines; the first row is line 1 here."""
    found = fault(*HEAD, "routine r " + names if names else "routine r", *rows, "done")
    return found and (found[0] - 7, found[1])


class HouseTest(unittest.TestCase):
    def setUp(self):
        self.house = House.read(BASIC)

    def test_fields(self):
        house = self.house
        self.assertEqual(house.hall, Hall(["a", "b"], ("box", "a", "size"), ("bag", None, "left", "right")))
        self.assertEqual((house.locks, house.kinds), (("a", "b"), ("box", "bag")))
        self.assertEqual(house.sorts, (("box", "size"), ("bag", "left"), ("bag", "right")))
        self.assertEqual([name for name, _ in house.bodies], ["fill", "lend"])
        self.assertEqual(house.bodies[1][1], Signature.read(house.hall, ": +a +b =a =b"))
        self.assertEqual([one.name for one in house.routines], ["r", "s"])
        self.assertEqual(house.routines[1].names, (("u", "bag"),))
        self.assertEqual((type(house.bodies), type(house.routines), type(house.bodies[0])), (tuple, tuple, tuple))

    def test_text_and_back(self):
        for text in TEXTS + tuple(random_house(seed, routines=3).text() for seed in range(60)):
            house = House.read(text)
            self.assertEqual(house.text(), text)
            self.assertTrue(House.read(house.text()) == house)
            self.assertTrue(House(house.hall, list(house.bodies), list(house.routines)) == house)

    def test_equality(self):
        self.assertFalse(self.house == House.read(WORDS))
        self.assertFalse(self.house == House.read(BASIC.replace(", skip", "")))
        self.assertFalse(self.house == House.read(BASIC.replace("+b =a =b", "+b =a")))
        self.assertFalse(self.house == House.read(BASIC.replace("left right", "left")
                                                  .replace("z right", "z left")))
        one = House.read("kind k - n\nroutine r\ndone")
        for other in ["kind k - m\nroutine r\ndone", "lock a\nkind k - n\nroutine r\ndone"]:
            self.assertFalse(one == House.read(other))
        for value in ODD_VALUES + (BASIC,):
            self.assertFalse(self.house == value)

    def test_questions(self):
        house = self.house
        self.assertEqual([house.guard_of("box"), house.guard_of("bag")], ["a", None])
        self.assertEqual(house.fields_of("bag"), ("left", "right"))
        self.assertIs(house.signature_of("lend"), house.bodies[1][1])
        self.assertIs(house.routine_of("s"), house.routines[1])
        for value in ("a", "nothing", "size", None, 0, True, ["r"], THING):
            for ask in (house.guard_of, house.fields_of, house.signature_of, house.routine_of):
                self.assertEqual(error_of(ask, value), ("NoSuch", value))
        self.assertEqual(error_of(house.signature_of, "r"), ("NoSuch", "r"))
        self.assertEqual(error_of(house.routine_of, "lend"), ("NoSuch", "lend"))

    def test_makes_guard(self):
        for deed, makes in [(("take", "a"), True), (("take", "a", "as", "g"), True), (("call", "lend", ()), True),
                            (("call", "lend", (), "as", "h"), True), (("call", "fill", ("x", "z")), False),
                            (("skip",), False), (("read", "x", "size"), False)]:
            self.assertIs(self.house.makes_guard(deed), makes)

    def test_a_list_that_changes_later_changes_nothing(self):
        bodies, routines = list(self.house.bodies), list(self.house.routines)
        made = House(self.house.hall, bodies, routines)
        bodies.pop()
        routines.pop()
        self.assertEqual(made.text(), BASIC)

    def test_a_signature_is_read_anew(self):
        hall = Hall(["b", "a"], ("bag", None, "left"), ("box", "b", "size"))
        made = House(hall, [("go", Signature.read(self.house.hall, "box : +a bag.left"))], [Routine("r", [], [])])
        self.assertEqual(made.bodies[0][1].hall, hall)
        self.assertEqual(made.text(), "lock b\nlock a\nkind bag - left\nkind box b size\nbody go box : +a bag.left"
                                      "\nroutine r\ndone")
        other = Signature.read(self.house.hall, ": +a +b")
        self.assertEqual(error_of(House, hall, [("go", other)], [Routine("r", [], [])]), ("BadLine", 5, "order"))
        other = Signature.read(self.house.hall, ": bag.right")
        self.assertEqual(error_of(House, hall, [("go", other)], [Routine("r", [], [])]), ("BadLine", 5, "unknown"))
        other = Signature.read(self.house.hall, ": +a box.size")
        self.assertEqual(error_of(House, hall, [("go", other)], [Routine("r", [], [])]), ("BadLine", 5, "needs"))

    def test_wrong_parts(self):
        hall, routines = Hall(["a"], ("k", None, "n")), [Routine("r", [], [])]
        plain = Signature(hall)
        for value in ODD_VALUES + ("take", "b c", "b :"):
            self.assertEqual(error_of(House, hall, [("c", plain), (value, plain)], routines), ("BadLine", 4, "form"))
        self.assertEqual(error_of(House, hall, [("a", plain)], routines), ("BadLine", 3, "twice"))
        self.assertEqual(error_of(House, hall, [("b", plain), ("b", plain)], routines), ("BadLine", 4, "twice"))
        self.assertEqual(error_of(House, hall, [(f"b{at}", plain) for at in range(4)], routines), ("BadLine", 6, "many"))
        self.assertEqual(error_of(House, hall, [], []), ("BadLine", 3, "end"))
        self.assertEqual(error_of(House, hall, [("r", plain)], routines), ("BadLine", 4, "twice"))
        five = [Routine(f"r{at}", [], [Row("block"), Row("close")]) for at in range(5)]
        self.assertEqual(error_of(House, hall, [], five), ("BadLine", 19, "many"))
        self.assertEqual(error_of(House, hall, [], routines + [Routine("s", [("x", "box")], [])]),
                         ("BadLine", 5, "unknown"))
        self.assertEqual(error_of(House, hall, [], routines + [Routine("s", [], [Row.read("do take b")])]),
                         ("BadLine", 6, "unknown"))
        self.assertEqual(error_of(House, hall, [("b", plain)], [Routine("s", [], [Row.read("do call b as g")])]),
                         ("BadLine", 5, "fit"))


class LineTest(unittest.TestCase):
    """[19], line by line; the mutated texts of test_mutations go on with it."""

    def test_form(self):
        for text in ["", " ", "lock", "lock A", "lock a b", "lock take", "Lock a", "kind k", "kind k -", "kind k - f g h",
                     "kind k - -", "kind - - f", "body b", "body b ", "body b x", "body b: :", "body : :", "routine",
                     "routine r ", "routine r x", "routine r x:", "routine r :k", "routine r x:k:m", "routine r x:k,y:k",
                     "routine do", "done ", "do", "do skip;", "block a", "or ", "close g", "drop", "give g h", "done r",
                     "house", "lock  a", " lock a", "lock a\t", "do read x", "with", "body b : a>a", "body b : +A"]:
            self.assertEqual(fault("lock a", text, "kind k - f"), (2, "form"), text)
        self.assertEqual(fault(""), (1, "form"))
        self.assertEqual(fault("kind k - f", "routine r", "done", ""), (4, "form"))

    def test_place(self):
        good = HEAD + ["routine r", "done"]
        for at, line in [(3, "lock c"), (5, "lock c"), (8, "lock c"), (7, "lock c"), (5, "kind k - f"), (8, "kind k - f"),
                         (7, "kind k - f"), (8, "body c :"), (7, "body c :"), (7, "routine s"), (2, "body c :"),
                         (0, "routine s"), (0, "body c :"), (1, "routine s"), (0, "do skip"), (4, "close"), (8, "block"),
                         (6, "done"), (8, "done"), (0, "done"), (6, "drop g")]:
            self.assertEqual(fault(*good[:at], line, *good[at:]), (at + 1, "place"), (at, line))
        self.assertEqual(row_fault("do take a as g", "give g", "do skip"), (3, "place"))
        self.assertEqual(row_fault("do take a as g", "block", "give g"), (3, "place"))
        short = ["kind k - f", "routine r", "done"]
        for line in ["lock a", "kind l - f", "body b :", "do skip", "done"]:
            self.assertEqual(fault(*short, line), (4, "place"))
        for line in ["body b k** :", "body b k : +A", "body take :", "kind l", "lock A", "routine r x:A"]:
            self.assertEqual(fault(*short[:2], line), (3, "form"))

    def test_many(self):
        locks, kinds = ["lock a", "lock b", "lock c", "lock d"], ["kind k - f", "kind l a f", "kind m d f g"]
        bodies = ["body p k l m : +a", "body q :", "body s :"]
        routines = [f"routine r{at} x:k y:k z:l u:m" for at in range(4)]
        text = [line for one in routines for line in (one, "done")]
        self.assertIsNone(fault(*locks, *kinds, *bodies, *text))
        self.assertEqual(fault(*locks, "lock e", *kinds), (5, "many"))
        self.assertEqual(fault(*locks, *kinds, "kind n - f"), (8, "many"))
        self.assertEqual(fault(*kinds[:1], *bodies[1:], "body t :", "body u :"), (5, "many"))
        self.assertEqual(fault(*locks, *kinds, *bodies, *text, "routine t"), (19, "many"))
        self.assertEqual(fault("kind k - f", "body p k k k k :"), (2, "many"))
        self.assertEqual(fault("kind k - f", "routine r x:k y:k z:k u:k v:k"), (2, "many"))
        self.assertEqual(row_fault(*["block", "close"] * 12, "do skip"), (25, "many"))
        self.assertIsNone(row_fault(*["block", "close"] * 12))
        self.assertEqual(row_fault("do skip", "do " + ", ".join(["skip"] * 24)), (2, "many"))
        self.assertEqual(row_fault(*["repeat"] * 5), (5, "many"))
        self.assertIsNone(fault(*FULL.split("\n")))

    def test_pair(self):
        for rows, line in [(["or"], 1), (["close"], 1), (["block", "or"], 2), (["either", "or", "or"], 3), (["block"], 2),
                           (["either", "block", "or"], 3), (["either", "or"], 3), (["with take a"], 2)]:
            self.assertEqual(row_fault(*rows), (line, "pair"), rows)

    def test_twice(self):
        for line in ["lock b", "lock a"]:
            self.assertEqual(fault("lock a", "lock b", line), (3, "twice"))
        for line in ["kind a - f", "kind box - f", "kind cup - f f"]:
            self.assertEqual(fault(*HEAD[:4], line), (5, "twice"))
        for line in ["body a :", "body bag :", "body lend :"]:
            self.assertEqual(fault(*HEAD, line), (7, "twice"))
        for line in ["routine a", "routine bag", "routine lend", "routine r", "routine s x:box x:bag"]:
            self.assertEqual(fault(*HEAD, "routine r", "done", line), (9, "twice"))
        self.assertIsNone(fault("lock a", "kind k a k", "routine r a:k k:k r:k f:k", "do take a as g, read k k", "done"))
        for row in ["do take a as x", "do take a as g, take b as g", "do call lend as g"]:
            self.assertEqual(row_fault("do skip", "do take a as g", row)[1], "twice")

    def test_scope(self):
        self.assertEqual(row_fault("drop g"), (1, "scope"))
        self.assertEqual(row_fault("either", "do take a as g", "or", "drop g"), (4, "scope"))
        self.assertEqual(row_fault("repeat", "do take a as g", "close", "give g"), (4, "scope"))
        self.assertIsNone(row_fault("with take a as g", "drop g", "close", "drop g", "give g"))

    def test_unknown(self):
        self.assertEqual(fault("lock a", "kind k b f"), (2, "unknown"))
        for text in ["cup :", ": +c", ": =c", ": +a a>c", ": box.left", ": cup.f", ": bag.size"]:
            self.assertEqual(fault(*HEAD[:4], "body c " + text), (5, "unknown"))
        self.assertEqual(fault(*HEAD, "routine r x:cup"), (7, "unknown"))
        for deed in ["make w", "copy x w", "copy w x", "fetch w", "fetch x y w", "read w size", "keep w size", "put w",
                     "write w size", "call fill x w", "read x left", "keep z size", "write x x", "take c", "call none",
                     "call r", "call box x", "take box"]:
            self.assertEqual(row_fault("do " + deed), (1, "unknown"), deed)
            self.assertEqual(row_fault("with skip, " + deed), (1, "unknown"), deed)

    def test_fit(self):
        for deed in ["copy x z", "copy z x", "fetch x y z", "fetch x z", "call fill", "call fill x", "call fill z x",
                     "call fill x z z", "call fill x x", "call lend x", "call fill x z as g"]:
            self.assertEqual(row_fault("do " + deed), (1, "fit"), deed)
        for deed in ["copy x y", "copy x x", "fetch z u z", "call fill y u", "call lend as g", "call lend"]:
            self.assertIsNone(row_fault("do " + deed), deed)

    def test_needs_and_order(self):
        for text in [": a>b", ": =a", ": +b box.size", ": +a a>b"]:
            self.assertEqual(fault(*HEAD[:4], "body c " + text), (5, "needs"))
        for text in [": +b +a", ": +a +a", ": bag.left +a", ": bag.right bag.left"]:
            self.assertEqual(fault(*HEAD[:4], "body c " + text), (5, "order"))

    def test_end(self):
        self.assertEqual(fault("lock a"), (2, "end"))
        self.assertEqual(fault("kind k - f"), (2, "end"))
        self.assertEqual(fault(*HEAD), (7, "end"))
        self.assertEqual(fault(*HEAD, "routine r"), (8, "end"))
        self.assertEqual(fault(*HEAD, "routine r", "block"), (9, "end"))
        self.assertEqual(fault(*HEAD, "routine r", "done", "routine s", "do skip"), (11, "end"))

    def test_the_first_rule_of_a_line_decides(self):
        # Each line breaks its rule and later ones; then an earlier one, too.
        self.assertEqual(fault("lock a", "kind k b f", "lock a"), (2, "unknown"))
        self.assertEqual(fault("lock a", "kind k - f", "lock a"), (3, "place"))
        self.assertEqual(fault("lock a", "lock b", "lock c", "lock d", "lock a"), (5, "many"))
        kinds = ["kind k - f", "kind l - f", "kind m - f"]
        self.assertEqual(fault(*kinds, "kind k z f f"), (4, "many"))
        self.assertEqual(fault(*kinds[:1], "kind k z f f"), (2, "twice"))
        self.assertEqual(fault(*kinds, "kind K z f f"), (4, "form"))
        self.assertEqual(fault(*kinds, "body k k k k k : a>b"), (4, "many"))
        self.assertEqual(fault(*kinds, "body k z : a>b"), (4, "twice"))
        self.assertEqual(fault(*kinds, "body b z : a>b"), (4, "unknown"))
        self.assertEqual(fault("lock a", "lock b", *kinds, "body c k : a>b a>b"), (6, "needs"))
        self.assertEqual(fault(*kinds, "body k z : a>a"), (4, "form"))
        self.assertEqual(fault("body k z : a>b"), (1, "place"))
        self.assertEqual(fault(*kinds, "routine k x:z x:k"), (4, "twice"))
        self.assertEqual(fault(*kinds, "routine k x:z x:k a:k b:k c:k"), (4, "many"))
        self.assertEqual(row_fault("do take a as x, make w, copy x z"), (1, "twice"))
        self.assertEqual(row_fault("do copy x z, make w"), (1, "unknown"))
        self.assertEqual(row_fault("with call lend as g", "do call fill z x, take z", "drop h"), (2, "unknown"))
        self.assertEqual(row_fault(*["block"] * 4, "with take a as x, make w"), (5, "many"))
        self.assertEqual(row_fault("do take a as g", "give g", "do make w, skip as"), (3, "form"))
        self.assertEqual(row_fault("do take a as g", "give g", "close"), (3, "place"))
        self.assertEqual(row_fault("do take a as g", "block", "give h"), (3, "place"))


class ChangedHouseTest(unittest.TestCase):
    def setUp(self):
        self.house = House.read(BASIC)

    def test_with_signature(self):
        hall = self.house.hall
        changed = self.house.with_signature("fill", Signature.read(hall, "box bag :"))
        self.assertEqual(changed.text(), BASIC.replace("fill box* bag : +a +b a>b box.size bag.left", "fill box bag :"))
        self.assertEqual(self.house.text(), BASIC)
        other = Hall(["b", "a", "c"], *hall.descriptions, ("cup", None, "n"))
        changed = self.house.with_signature("lend", Signature.read(other, ": +a =a"))
        self.assertEqual(changed.signature_of("lend"), Signature.read(hall, ": +a =a"))
        for value in ("r", "none", None, 0, ["lend"]):
            self.assertEqual(error_of(self.house.with_signature, value, Signature(hall)), ("NoSuch", value))
        self.assertEqual(error_of(self.house.with_signature, "fill", Signature(hall)), ("BadLine", 17, "fit"))
        self.assertEqual(error_of(self.house.with_signature, "lend", Signature(hall)), ("BadLine", 21, "fit"))
        far = Signature.read(other, ": +b +a +c")
        self.assertEqual(error_of(self.house.with_signature, "lend", far), ("BadLine", 6, "unknown"))

    def test_with_rows(self):
        changed = self.house.with_rows("s", [Row("block"), Row("close")])
        head = BASIC.partition("routine s")[0]
        self.assertEqual(changed.text(), head + "routine s u:bag\nblock\nclose\ndone")
        self.assertEqual(self.house.text(), BASIC)
        self.assertEqual(self.house.with_rows("r", ()).routine_of("r").rows, ())
        for value in ("lend", "none", None, 0, ["r"]):
            self.assertEqual(error_of(self.house.with_rows, value, [None]), ("NoSuch", value))
        for value in ODD_VALUES + ("block",):
            self.assertEqual(error_of(self.house.with_rows, "s", [Row("block"), value]), ("BadLine", 21, "form"), value)
        for rows, line, rule in [(["do read u size", "close"], 20, "unknown"), (["do skip", "close"], 21, "pair"),
                                 (["block", "do skip"], 22, "pair"), (["drop g"], 20, "scope"),
                                 (["do take a as u"], 20, "twice"), (["do call fill u u"], 20, "fit")]:
            self.assertEqual(error_of(self.house.with_rows, "s", [Row.read(row) for row in rows]), ("BadLine", line, rule))
        # The first wrong line of the whole text counts, also if only the house makes it wrong.
        rows = [Row.read("do read x nofield"), Row("close")]
        self.assertEqual(error_of(self.house.with_rows, "r", rows), ("BadLine", 8, "unknown"))

    def test_sum(self):
        one = House.read("lock a\nkind k a n\nbody b : +a\nbody c k :\nroutine r x:k\ndo call c x\ndone")
        two = House.read("lock a\nkind k a n\nbody d :\nbody b : +a\nroutine s\ndo call d, call b\ndone")
        self.assertEqual((one + two).text(), "\n".join([
            "lock a", "kind k a n", "body b : +a", "body c k :", "body d :", "routine r x:k", "do call c x", "done",
            "routine s", "do call d, call b", "done"]))
        self.assertEqual((two + one).bodies, two.bodies + one.bodies[1:])
        self.assertEqual((one.text().count("body"), two.text().count("body")), (2, 2))

    def test_wrong_sums(self):
        text = "lock a\nkind k a n\nbody b : +a\nroutine r\ndone"
        one = House.read(text)
        for other in ["lock z\nkind k z n\nbody b : +z\nroutine s\ndone", "lock a\nkind k - n\nbody b : +a\nroutine s\ndone",
                      "lock a\nkind k a n\nbody b :\nroutine s\ndone", "lock a\nkind k a n\nbody b :\nroutine r\ndone"]:
            self.assertEqual(error_of(lambda: one + House.read(other)), ("Unlike",))
        for text in ["lock a\nkind k a m", "lock b\nkind k b n", "lock a\nkind k a n\nkind m - n"]:
            self.assertEqual(error_of(lambda: one + House.read(text + "\nroutine s\ndone")), ("Unlike",))
        self.assertEqual(error_of(lambda: one + one), ("BadLine", 6, "twice"))
        other = House.read("lock a\nkind k a n\nbody r :\nroutine s\ndone")
        self.assertEqual(error_of(lambda: one + other), ("BadLine", 5, "twice"))
        many = House.read("lock a\nkind k a n\n" + "body c :\nbody d :\nbody e :\nroutine s\ndone")
        self.assertEqual(error_of(lambda: one + many), ("BadLine", 6, "many"))
        four = House.read("lock a\nkind k a n\n" + "\n".join(f"routine s{at}\ndone" for at in range(4)))
        self.assertEqual(error_of(lambda: one + four), ("BadLine", 12, "many"))


if __name__ == "__main__":
    unittest.main()
