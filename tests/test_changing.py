"""[20]: keeping, naming, leaving out, ending, alone."""

import random
import unittest

from helpers import BASIC, NO_NUMBERS, ODD_VALUES, THING, error_of
from random_houses import random_house
from handsroom.changing import alone, ending, keeping, leaving_out, naming
from handsroom.deeds import guard_name, named
from handsroom.houses import House
from handsroom.routines import each_deed

HEAD = "lock a\nlock b\nkind k a n\nbody lend : +a =a\nbody plain :\n"
NO_PLACES = ODD_VALUES + (
    ("r",), ("r", 0), ("r", 0, 0, 0), ["r", 0, 0], ("q", 0, 0), ("lend", 0, 0), (None, 0, 0), (["r"], 0, 0),
    ("r", 99, 0), ("r", -1, 0), ("r", 0, 99), ("r", 0, -1), (THING, 0, 0), ("k", 0, 0))


def house(*rows, names="x:k"):
    return House.read(HEAD + "\n".join(["routine r " + names, *rows, "done", "routine s", "do take b, take a", "done"]))


def rows_of(changed, name="r"):
    return [row.text() for row in changed.routine_of(name).rows]


class PlaceTest(unittest.TestCase):
    def assert_wrong(self, change, given, good, wrong):
        for place in wrong:
            self.assertEqual(error_of(change, given, [place]), ("BadPlace", place), place)
            self.assertEqual(error_of(change, given, good + [place, None]), ("BadPlace", place), place)
        for value in NO_NUMBERS:
            for place in [("r", value, 0), ("r", 0, value)]:
                self.assertEqual(error_of(change, given, (place,)), ("BadPlace", place), place)

    def test_keeping(self):
        given = house("do read x n, keep x n", "with write x n, read x n", "close", "block", "close")
        places = [("r", 1, 1), ("r", 0, 0), ("r", 1, 1)]
        changed = keeping(given, places)
        self.assertEqual(rows_of(changed)[:2], ["do keep x n, keep x n", "with write x n, keep x n"])
        self.assertEqual(changed.text(), given.text().replace("read x n", "keep x n"))
        self.assertEqual(rows_of(keeping(given, places[:1]))[0], "do read x n, keep x n")
        self.assertTrue(keeping(given, []) == given)
        self.assertEqual(places, [("r", 1, 1), ("r", 0, 0), ("r", 1, 1)])
        self.assert_wrong(keeping, given, places, NO_PLACES + (
            ("r", 0, 1), ("r", 1, 0), ("r", 2, 0), ("r", 3, 0), ("s", 0, 0)))

    def test_naming(self):
        given = house("do take a, call lend, take b as n1", "with call lend, take b", "close", "do call plain, skip",
                      names="x:k n3:k")
        changed = naming(given, [("r", 1, 1), ("r", 0, 1), ("s", 0, 1), ("r", 0, 0), ("r", 0, 1)])
        self.assertEqual(rows_of(changed)[:2], [
            "do take a as n0, call lend as n2, take b as n1", "with call lend, take b as n4"])
        self.assertEqual(rows_of(changed, "s"), ["do take b, take a as n0"])
        self.assertEqual(rows_of(naming(given, [("r", 1, 0)]))[1], "with call lend as n0, take b")
        self.assertTrue(naming(given, ()) == given)
        self.assert_wrong(naming, given, [("r", 0, 0)], NO_PLACES + (
            ("r", 0, 2), ("r", 3, 0), ("r", 3, 1), ("r", 2, 0), ("r", 4, 0)))

    def test_leaving_out(self):
        given = house("do take a as g, take b", "drop g", "either", "drop g", "or", "do take b as h", "drop h", "close",
                      "do call lend as i", "do take b as j", "with take a", "close", "drop i", "give j")
        changed = leaving_out(given, [("r", 0, 0), ("r", 10, 0), ("r", 0, 0)])
        self.assertEqual(rows_of(changed), [
            "do skip, take b", "do skip", "either", "do skip", "or", "do take b as h", "drop h", "close",
            "do call lend as i", "do take b as j", "with skip", "close", "drop i", "give j"])
        self.assertEqual(rows_of(changed, "s"), ["do take b, take a"])
        self.assertEqual(rows_of(leaving_out(given, [("r", 0, 1)]))[:2], ["do take a as g, skip", "drop g"])
        self.assertEqual(rows_of(leaving_out(given, [("s", 0, 1)]), "s"), ["do take b, skip"])
        self.assertTrue(leaving_out(given, []) == given)
        self.assert_wrong(leaving_out, given, [("r", 0, 0)], NO_PLACES + (
            ("r", 8, 0), ("r", 9, 0), ("r", 1, 0), ("r", 13, 0)))

    def test_a_guard_name_of_another_routine_stays(self):
        text = HEAD + "routine r\ndo take a as g\ndrop g\ndone\nroutine s\ndo take a as g\ndrop g\ndone"
        changed = leaving_out(House.read(text), [("s", 0, 0)])
        self.assertEqual((rows_of(changed), rows_of(changed, "s")), (["do take a as g", "drop g"], ["do skip"] * 2))

    def test_random_changes(self):
        rng = random.Random(8)
        for seed in range(120):
            given = random_house(seed, rows=8, routines=2)
            text = given.text()
            reads, unnamed, takes = [], [], []
            for one in given.routines:
                gives = [row.guard for row in one.rows if row.word == "give"]
                for row, index, deed in each_deed(one):
                    place = (one.name, row, index)
                    reads += [place] * (deed[0] == "read")
                    unnamed += [place] * (given.makes_guard(deed) and not guard_name(deed))
                    takes += [place] * (deed[0] == "take" and guard_name(deed) not in gives)
            for change, places in [(keeping, reads), (naming, unnamed), (leaving_out, takes)]:
                rng.shuffle(places)
                chosen = places[:rng.randint(0, len(places))]
                changed = change(given, chosen)
                self.assertEqual(given.text(), text)
                self.assertEqual(House.read(changed.text()), changed)
                self.compare(given, changed, change, chosen)

    def compare(self, given, changed, change, chosen):
        self.assertEqual((changed.hall, changed.bodies), (given.hall, given.bodies))
        for one, other in zip(given.routines, changed.routines):
            self.assertEqual((one.name, one.names, len(one.rows)), (other.name, other.names, len(other.rows)))
            new = iter(sorted(place for place in chosen if place[0] == one.name))
            fresh = {}
            taken = [name for name, _ in one.names] + [guard for row in one.rows for guard in row.guards]
            for place in new:
                fresh[place] = next(f"n{at}" for at in range(99) if f"n{at}" not in taken + list(fresh.values()))
            gone = [guard_name(one.rows[row].deeds[index]) for name, row, index in chosen if name == one.name]
            for number, (row, late) in enumerate(zip(one.rows, other.rows)):
                if change is leaving_out and row.word == "drop" and row.guard in gone:
                    self.assertEqual(late.text(), "do skip")
                    continue
                self.assertEqual((row.word, row.guard, len(row.deeds)), (late.word, late.guard, len(late.deeds)))
                for index, (deed, after) in enumerate(zip(row.deeds, late.deeds)):
                    place = (one.name, number, index)
                    want = deed
                    if place in chosen:
                        want = {keeping: ("keep",) + deed[1:], leaving_out: ("skip",)}.get(change)
                        want = want if change is not naming else named(deed, fresh[place])
                    self.assertEqual(after, want)


class EndingTest(unittest.TestCase):
    def setUp(self):
        self.given = house("do take a as g", "block", "do take b as h", "close", "do skip")

    def test_ending(self):
        rows = rows_of(self.given)
        for number in range(1, 6):
            changed = ending(self.given, "r", number, "g")
            self.assertEqual(rows_of(changed), rows[:number] + ["drop g"] + rows[number:])
        self.assertEqual(rows_of(ending(self.given, "r", 3, "h"))[3], "drop h")
        self.assertEqual(rows_of(self.given), rows)

    def test_errors(self):
        for value in ODD_VALUES + ("q", "lend", 0):
            self.assertEqual(error_of(ending, self.given, value, None, None), ("NoSuch", value))
        for value in NO_NUMBERS + (-1, 6, 10 ** 40):
            self.assertEqual(error_of(ending, self.given, "r", value, None), ("BadPlace", ("r", value)))
        for value in ODD_VALUES + ("drop", 1):
            self.assertEqual(error_of(ending, self.given, "r", 0, value), ("BadPart", "form"))
        self.assertEqual(error_of(ending, self.given, "r", 0, "g"), ("BadLine", 7, "scope"))
        self.assertEqual(error_of(ending, self.given, "r", 4, "h"), ("BadLine", 11, "scope"))
        self.assertEqual(error_of(ending, self.given, "r", 5, "z"), ("BadLine", 12, "scope"))
        given = house("do take a as g", "give g")
        self.assertEqual(rows_of(ending(given, "r", 1, "g")), ["do take a as g", "drop g", "give g"])
        self.assertEqual(error_of(ending, given, "r", 2, "g"), ("BadLine", 9, "place"))
        full = house("do take a as g", *["block", "close"] * 11, "do skip")
        self.assertEqual(error_of(ending, full, "r", 1, "g"), ("BadLine", 31, "many"))
        full = house("do take a as g" + ", skip" * 23)
        self.assertEqual(error_of(ending, full, "r", 1, "g"), ("BadLine", 8, "many"))

    def test_alone(self):
        house_ = House.read(BASIC)
        only = BASIC.partition("routine r")[0] + "routine s" + BASIC.partition("routine s")[2]
        self.assertEqual(alone(house_, ["s", "s"]).text(), only)
        self.assertTrue(alone(house_, ("s", "r")) == house_)
        for value in ODD_VALUES + ("t", "lend", "box"):
            self.assertEqual(error_of(alone, house_, ["r", value, None]), ("NoSuch", value))
        self.assertEqual(error_of(alone, house_, []), ("BadLine", 7, "end"))


if __name__ == "__main__":
    unittest.main()
