"""[79], [80]: the table with others, against all short weavings of up to three hands."""

import random
import unittest

from helpers import LARGE_HOUSE, TEXTS, error_of
from random_houses import busy_house, careless_house, random_house, random_path
from test_verdicts import reading_first
from woven_oracle import Woven
from handsroom.bareness import is_settled
from handsroom.changing import alone
from handsroom.errors import BadPath, BadPoint, TooLarge
from handsroom.houses import House
from handsroom.judging import HeldTable, demand_statuses
from handsroom.lonetable import LoneTable
from handsroom.marks import first_marked, lost, marked_after
from handsroom.nesting import house_nests
from handsroom.others import OthersTable
from handsroom.rings import find_ring
from handsroom.spreading import Spread
from handsroom.twohands import open_places, open_points
from handsroom.writers import is_gated

HEAD = "lock a\nlock b\nkind box a f\nkind bag - f g\nbody lend : +a +b =a =b\n"
WRITER = "\nroutine w v:box u:bag\nwith take a, take b\ndo write v f\nclose\ndo write u f\ndone"


def table_of(*rows, others=WRITER):
    house = House.read(HEAD + "\n".join(("routine r x:box y:box u:bag",) + rows + ("done",)) + others)
    return OthersTable(Spread(house, "r"))


def statuses(*rows, **more):
    return tuple(one for one in demand_statuses(table_of(*rows, **more)) if one is not None)


class StatusTest(unittest.TestCase):
    def test_a_lock_that_gates(self):
        for lock in ("a", "b"):
            self.assertEqual(statuses(f"with take {lock}", "do read x f, keep x f", "close", "do keep x f"),
                             ("needed", "spared", "needed"))
        self.assertEqual(statuses("do read x f, keep x f"), ("needed", "needed"))

    def test_what_no_hand_writes(self):
        self.assertEqual(statuses("do read u g, keep u g, keep u f"), ("needed", "spared", "needed"))

    def test_the_loss_is_that_of_the_node_that_is_reached(self):
        """Another hand writes between a read and the take that comes next."""
        self.assertEqual(statuses("do read x f, take a, keep x f"), ("needed", "needed"))
        self.assertEqual(statuses("with take a", "do read x f, take b, keep x f", "close"), ("needed", "spared"))
        self.assertEqual(statuses("do take a as g", "do read x f, take b as h", "drop g", "do keep x f"), ("needed", "spared"))
        self.assertEqual(statuses("do take a as g", "do read x f, take b as h", "drop g", "drop h", "do keep x f"),
                         ("needed", "needed"))

    def test_own_objects_are_not_lost(self):
        self.assertEqual(statuses("do make x, keep x f, put x, keep x f"), ("spared", "needed"))

    def test_some_locks_of_several(self):
        """A guard of a or of b is handed back: each of them gates the sort."""
        self.assertEqual(statuses("with call lend", "do read x f, keep x f", "close"), ("needed", "spared"))
        other = WRITER.replace("take a, take b", "take a")
        self.assertEqual(statuses("with call lend", "do read x f, keep x f", "close", others=other), ("needed", "mixed"))

    def test_open_sorts(self):
        table = table_of("with take a", "do skip", "close")
        self.assertEqual(table.open_sorts((0, ())), (("box", "f"), ("bag", "f")))
        self.assertEqual(table.open_sorts((1, (("0.0", "a"),))), (("bag", "f"),))
        self.assertEqual(table.open_sorts((1, (("g", "b"), ("h", "a")))), (("bag", "f"),))
        quiet = table_of("do skip", others="")
        self.assertEqual(quiet.open_sorts((0, ())), ())

    def test_open_sorts_are_those_that_are_not_gated(self):
        for seed in range(40):
            house = busy_house(seed)
            table = OthersTable(Spread(house, "r"))
            for spot in table:
                held = [lock for _, lock in spot.node[1]]
                want = tuple(sort for sort in house.sorts if not is_gated(house, *sort, held))
                self.assertEqual(table.open_sorts(spot.node), want)


class TableTest(unittest.TestCase):
    def test_fields_and_methods_of_a_held_table(self):
        table = table_of("with take a", "do read x f, keep x f", "close")
        held = HeldTable(table.spread)
        self.assertEqual((len(table), table.MOST_SPOTS), (len(held), 600))
        self.assertEqual([spot.node for spot in table], [spot.node for spot in held])
        self.assertEqual(list(table), list(table.spots))
        self.assertEqual([spot.number for spot in table.spots_at(2)], [2])
        self.assertEqual([table.is_known(spot) for spot in table], [False, False, True, False, False])
        way = table.way_to(3)
        self.assertEqual((way, table.spot_of(list(way))), (held.way_to(3), 3))
        self.assertEqual((table.spots[2].depth, table.spots[2].parent, table.spots[2].nexts), (2, 1, (3,)))
        for value in (-1, 5, True, None, "0"):
            self.assertEqual(error_of(table.spots_at, value), ("BadPoint", value))
        self.assertEqual(error_of(table.spot_of, []), ("BadPath", 0))
        for call, error in ((lambda: table.spots_at(9), BadPoint), (lambda: table.spot_of([(1, ())]), BadPath)):
            with self.assertRaises(error):
                call()

    def test_the_record_of_each_spot(self):
        rng, checked = random.Random(79), 0
        houses = [House.read(text) for text in TEXTS[:3]] + [busy_house(seed, rows=6) for seed in range(60)]
        houses += [random_house(seed, rows=6, routines=2, names=4) for seed in range(40)]
        for house in houses:
            for routine in house.routines:
                spread = Spread(house, routine.name)
                try:
                    table = OthersTable(spread)
                except TooLarge:
                    continue
                path = random_path(rng, spread, 25)
                record = lost(spread, first_marked(spread), table.open_sorts(path[0]))
                for at, node in enumerate(path):
                    if at > 0:
                        before, guards = path[at - 1]
                        record = marked_after(spread, [lock for _, lock in guards], record, spread.points[before].step)
                        record = lost(spread, record, table.open_sorts(node))
                    spot = table.spots[table.spot_of(path[:at + 1])]
                    self.assertEqual((spot.node, spot.record.key()), (node, record.key()))
                    checked += len(record.known) > 0
        self.assertGreater(checked, 200)

    def test_a_table_that_is_too_large(self):
        with self.assertRaises(TooLarge) as caught:
            OthersTable(Spread(House.read(LARGE_HOUSE), "r"))
        self.assertEqual(caught.exception.what, "spots")


class WeavingsTest(unittest.TestCase):
    def unsure(self, house):
        """The points (routine, point) with a spot that is not known."""
        found = set()
        for routine in house.routines:
            for point, status in enumerate(demand_statuses(OthersTable(Spread(house, routine.name)))):
                if status in ("needed", "mixed"):
                    found.add((routine.name, point))
        return found

    def test_known_demands_are_open_in_no_weaving(self):
        opened = spared = 0
        for seed in range(150):
            house = careless_house(seed) if seed % 3 == 1 else busy_house(seed, rows=4, routines=1 + seed % 2)
            unsure = self.unsure(house)
            woven = Woven(house, 3 if seed % 3 == 0 else 2, 5, most_states=4000)
            self.assertLessEqual(set(woven.opened), unsure)
            opened += len(woven.opened)
            for routine in house.routines:
                self.assertLessEqual({(routine.name, at) for at in open_points(house, routine.name)}, unsure)
                spared += "spared" in demand_statuses(OthersTable(Spread(house, routine.name)))
        self.assertGreater(opened, 120)
        self.assertGreater(spared, 20)

    def test_the_converse_in_settled_houses(self):
        checked = 0
        words = ("take", "take", "take", "call", "read", "read", "keep", "write", "fetch", "copy", "make")
        for seed in range(400):
            house = busy_house(seed, rows=5, names=2, words=words)
            if not is_settled(house) or not house_nests(house) or find_ring(house) is not None:
                continue
            opened = {(one.name, at) for one in house.routines for at in open_points(house, one.name)}
            self.assertEqual(opened, self.unsure(house))
            checked += 0 < len(opened)
        self.assertGreater(checked, 80)

    def test_smaller_houses_have_no_more_open_demands(self):
        """Without some routines, and with narrower signatures."""
        rng, less = random.Random(80), 0
        for seed in range(150):
            house = reading_first(busy_house(seed, rows=4, routines=2 + seed % 2))
            opened = set(open_places(house))
            names = [routine.name for routine in house.routines]
            some = rng.sample(names, rng.randint(1, len(names)))
            houses = [alone(house, some)]
            for body, signature in house.bodies:
                for mark in signature.marks:
                    if not signature.is_giving or mark[0] not in ("takes", "gives"):
                        houses.append(house.with_signature(body, signature - mark))
            for smaller in houses:
                self.assertLessEqual(set(open_places(smaller)), opened)
                left = {place for place in opened if place[0] in [routine.name for routine in smaller.routines]}
                less += set(open_places(smaller)) < left
        self.assertGreater(less, 15)

    def test_a_house_that_is_not_settled(self):
        """Without the conditions the table can be unsure of a demand that is open in no weaving."""
        house = House.read(HEAD + "routine r x:box\ndo make x, put x, keep x f\ndone\n"
                           "routine w v:box\ndo make v, put v, write v f\ndone")
        # What w writes is never what r has made.
        self.assertEqual(self.unsure(house), {("r", 2)})
        self.assertEqual(open_points(house, "r"), ())
        self.assertEqual(Woven(house, 3, 6).opened, {})


if __name__ == "__main__":
    unittest.main()
