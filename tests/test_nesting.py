"""[28]: breaches of the nesting and crossings, against all short lone paths."""

import random
import unittest

from helpers import ODD_VALUES, TEXTS, error_of
from random_houses import GUARD_WORDS, random_house
from run_oracle import levels, successors
from handsroom.houses import House
from handsroom.lonetable import LoneTable
from handsroom.nesting import crossings, first_breach, house_nests, nests
from handsroom.spreading import Spread

HEAD = "lock a\nlock b\nlock c\nkind k - n\nbody lend : +a +b =a =b\nroutine r\n"


def table(*rows):
    return LoneTable(Spread(House.read(HEAD + "\n".join(rows + ("done",))), "r"))


def crossed_at(spread, node):
    """The crossings that a node shows, as [28] tells them."""
    step = spread.points[node[0]].step
    tags = [tag for tag, _ in node[1]]
    if step[0] not in ("drop", "stop") or step[1] not in tags:
        return []
    return [(step[1], tag) for tag in tags[tags.index(step[1]) + 1:]]


class NestingTest(unittest.TestCase):
    def check(self, found, pairs, breach=None):
        self.assertEqual(crossings(found), pairs)
        self.assertEqual(first_breach(found), breach)
        house, name = found.spread.house, found.spread.name
        self.assertIs(nests(house, name), breach is None)
        self.assertIs(house_nests(house), breach is None)

    def test_nesting(self):
        self.check(table(), ())
        self.check(table("do take a, take b"), ())
        self.check(table("with take a", "do take b", "close"), ())
        self.check(table("do take a as g", "do take b as h", "drop h", "drop g"), ())
        # A guard that is there no more breaks nothing.
        self.check(table("do take a as g", "drop g", "do take b as h", "drop g", "drop h"), ())
        self.check(table("do take a as g", "do take b as h", "drop h", "give g"), ())

    def test_a_drop_of_a_guard_that_is_not_the_last_one(self):
        self.check(table("do take a as g", "do take b as h", "drop g"), (("g", "h"),), (2, (("g", "a"), ("h", "b"))))
        self.check(table("do take a as g", "do take b as h", "do take c as i", "drop g", "drop h"),
                   (("g", "h"), ("g", "i"), ("h", "i")), (3, (("g", "a"), ("h", "b"), ("i", "c"))))
        self.check(table("with take a", "do take b as h", "do take c as g", "drop h", "close"),
                   (("h", "g"),), (3, (("0.0", "a"), ("h", "b"), ("g", "c"))))
        # Within a row the guards end behind its deeds, so a drop of an earlier name crosses none of them.
        self.check(table("do take a as g", "do take b", "drop g"), ())

    def test_a_named_guard_of_a_with_row(self):
        # It ends with the part, behind the unnamed guard that the close row ends.
        self.check(table("block", "with take a as g", "do take b as h", "close", "close"), ())
        self.check(table("with take a, take b as g", "close"),
                   (("0.0", "g"),), (2, (("0.0", "a"), ("g", "b"))))

    def test_the_stop(self):
        self.check(table("do take a as g", "give g"), ())
        self.check(table("do take a as g", "do take b as h", "give g"), ())
        # The guard that is handed back outlives the others, so an earlier one ends below it.
        self.check(table("do take b as h", "either", "drop h", "close", "do take a as g", "give g"),
                   (("h", "g"),), (4, (("h", "b"), ("g", "a"))))

    def test_the_order_of_the_crossings(self):
        found = table("do take a as g", "either", "do take c as i", "drop g", "or", "do take b as h", "drop g", "close")
        self.assertEqual(crossings(found), (("g", "i"), ("g", "h")))
        self.assertEqual(first_breach(found), (3, (("g", "a"), ("i", "c"))))

    def test_the_lowest_number_is_the_first_one(self):
        found = table("do take a as g", "either", "do skip, skip", "do take c as i", "drop g", "or", "do take b as h", "drop g",
                      "close")
        self.assertEqual(crossings(found), (("g", "h"), ("g", "i")))
        self.assertEqual(first_breach(found)[1], (("g", "a"), ("h", "b")))

    def test_several_locks_of_one_call(self):
        found = table("do call lend as g", "do call lend as h", "drop g")
        self.assertEqual(crossings(found), (("g", "h"),))
        self.assertEqual(first_breach(found), (2, (("g", "a"), ("h", "b"))))

    def test_a_house(self):
        text = HEAD + "do take a as g\ndo take b as h\ndrop g\ndone\nroutine s\ndo take a\ndone"
        house = House.read(text)
        self.assertEqual((nests(house, "r"), nests(house, "s"), house_nests(house)), (False, True, False))
        for value in ODD_VALUES + ("a", "k", "lend", 0):
            self.assertEqual(error_of(nests, house, value), ("NoSuch", value))


class OracleTest(unittest.TestCase):
    def test_against_all_lone_paths(self):
        crossing = whole = 0
        houses = [House.read(text) for text in TEXTS] + [
            random_house(seed, rows=9, routines=2, words=GUARD_WORDS) for seed in range(500)]
        for house in houses:
            for routine in house.routines:
                spread = Spread(house, routine.name)
                nodes = list(levels(spread))
                want = {pair for node in nodes for pair in crossed_at(spread, node)}
                found = LoneTable(spread)
                self.assertEqual(set(crossings(found)), want)
                self.assertEqual(len(crossings(found)), len(want))
                self.assertIsInstance(crossings(found), tuple)
                broken = [node for node in found.nodes if crossed_at(spread, node)]
                self.assertEqual(first_breach(found), broken[0] if broken else None)
                self.assertIs(nests(house, routine.name), not want)
                order = [pair for node in found.nodes for pair in crossed_at(spread, node)]
                self.assertEqual(list(crossings(found)), sorted(set(order), key=order.index))
                crossing, whole = crossing + bool(want), whole + (not want)
            self.assertIs(house_nests(house), all([nests(house, routine.name) for routine in house.routines]))
        self.assertGreater(min(crossing, whole), 40)

    def test_guards_end_last_made_first_where_a_routine_nests(self):
        """Along random lone paths a routine that nests ends only its last guard."""
        rng = random.Random(28)
        for seed in range(200):
            house = random_house(seed, rows=9, words=GUARD_WORDS)
            spread = Spread(house, "r")
            node = (0, ())
            for _ in range(30):
                following = successors(spread, node)
                if not following:
                    break
                after = rng.choice(following)
                if len(after[1]) < len(node[1]) and nests(house, "r"):
                    self.assertEqual(after[1], node[1][:-1])
                node = after


if __name__ == "__main__":
    unittest.main()
