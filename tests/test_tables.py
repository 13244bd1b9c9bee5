"""[39]: room tables."""

import random
import unittest

from helpers import NO_NUMBERS, TEXTS, error_of
from random_houses import random_house, random_path
from handsroom.bareness import find_bare
from handsroom.errors import TooLarge
from handsroom.houses import House
from handsroom.lonetable import START, lone_path, next_nodes
from handsroom.records import first_record, record_after, records
from handsroom.spreading import Spread
from handsroom.tables import RoomTable


def spots_by_hand(spread):
    """The keys (node, record) of the spots with depth, parent and nexts, found by looking at all of them."""
    found = [(START, first_record(spread).key())]
    rows = [[first_record(spread), 0, None, None]]
    for at, (node, _) in enumerate(found):
        if len(found) > 600:
            return None
        behind = record_after(spread, rows[at][0], spread.points[node[0]].step)
        rows[at][3] = []
        for after in next_nodes(spread, node):
            key = (after, behind.key())
            if key not in found:
                found.append(key)
                rows.append([behind, rows[at][1] + 1, at, None])
            rows[at][3].append(found.index(key))
    return [key + tuple(row[1:3]) + (tuple(row[3]),) for key, row in zip(found, rows)]


# Each pass of the loop may do any of these deeds; the table has just 600 spots.
WILD = ["repeat"] + [row for deed in ("fetch z x", "fetch w y", "copy x z", "copy z w", "make w")
                     for row in ("either", "do " + deed, "close")] + ["close"]


def wild(rows, names="x:k y:k z:k w:k"):
    return House.read("\n".join(["kind k - n", "routine s", "done", "routine r " + names] + rows + ["done"]))


class TableTest(unittest.TestCase):
    def test_a_table(self):
        text = "lock a\nkind k a n\nroutine r x:k y:k\nrepeat\ndo copy x y\nclose\ndone"
        spread = Spread(House.read(text), "r")
        table = RoomTable(spread)
        self.assertIs(table.spread, spread)
        told = [(spot.number, spot.node, spot.record.blocks, spot.depth, spot.parent, spot.nexts) for spot in table]
        apart, same = (("x",), ("y",)), (("x", "y"),)
        self.assertEqual(told, [
            (0, (0, ()), apart, 0, None, (1, 2)), (1, (1, ()), apart, 1, 0, (3,)), (2, (2, ()), apart, 1, 0, ()),
            (3, (0, ()), same, 2, 1, (4, 5)), (4, (1, ()), same, 3, 3, (3,)), (5, (2, ()), same, 3, 3, ())])
        self.assertEqual((len(table), type(table.spots), list(table)), (6, tuple, list(table.spots)))
        self.assertEqual(table.spots_at(1), (table.spots[1], table.spots[4]))
        self.assertEqual(table.way_to(5), ((0, ()), (1, ()), (0, ()), (2, ())))
        self.assertEqual(table.way_to(0), (START,))
        path = [(0, ()), (1, ()), (0, ()), (1, ()), (0, ()), (2, ())]
        self.assertEqual([table.spot_of(path[:at]) for at in range(1, 7)], [0, 1, 3, 4, 3, 5])
        for wrong, position in [([], 0), ([(2, ())], 0), (path + [START], 6), (path[:2] + [(2, ())], 2)]:
            self.assertEqual(error_of(table.spot_of, wrong), ("BadPath", position))
        for value in NO_NUMBERS + (-1, 3, 10 ** 40):
            self.assertEqual(error_of(table.spots_at, value), ("BadPoint", value))

    def test_points_without_a_spot(self):
        text = "lock a\nkind k a n\nroutine r x:k\ndo take a as g, take a\ndo skip\ndone"
        table = RoomTable(Spread(House.read(text), "r"))
        self.assertEqual([len(table.spots_at(point)) for point in range(6)], [1, 1, 0, 0, 0, 0])

    def test_against_all_spots(self):
        rng = random.Random(16)
        houses = [House.read(text) for text in TEXTS] + [random_house(seed, rows=9) for seed in range(150)]
        for house in houses:
            for routine in house.routines:
                spread = Spread(house, routine.name)
                want = spots_by_hand(spread)
                if want is None:
                    self.assertEqual(error_of(RoomTable, spread), ("TooLarge", "spots"))
                    continue
                table = RoomTable(spread)
                told = [(one.node, one.record.key(), one.depth, one.parent, one.nexts) for one in table]
                self.assertEqual((told, [one.number for one in table]), (want, list(range(len(want)))))
                self.check_ways(rng, spread, table)

    def check_ways(self, rng, spread, table):
        for spot in table.spots[::3]:
            way = table.way_to(spot.number)
            self.assertEqual((lone_path(spread, way), len(way) - 1), (way, spot.depth))
            self.assertEqual(table.spot_of(list(way)), spot.number)
            self.assertEqual(list(records(spread, way))[-1].key(), spot.record.key())
        path = random_path(rng, spread, 15)
        reached = table.spots[table.spot_of(path)]
        self.assertEqual((reached.node, reached.record.key()), (path[-1], list(records(spread, path))[-1].key()))
        self.assertLessEqual(reached.depth, len(path) - 1)

    def test_too_large(self):
        self.assertEqual(RoomTable.MOST_SPOTS, 600)
        house = wild(["do skip"] + WILD)
        self.assertTrue(spots_by_hand(Spread(house, "r")) is None)
        with self.assertRaises(TooLarge) as caught:
            RoomTable(Spread(house, "r"))
        self.assertEqual(caught.exception.what, "spots")
        self.assertEqual(error_of(find_bare, house), ("TooLarge", "spots"))
        self.assertEqual(len(RoomTable(Spread(house, "s"))), 1)

    def test_the_bound_itself(self):
        house = wild(WILD)
        self.assertEqual(len(RoomTable(Spread(house, "r"))), 600)
        self.assertIsNone(find_bare(house))
        for more in (["do skip"], ["do skip, skip"], ["either", "do make y", "close"]):
            self.assertEqual(error_of(RoomTable, Spread(wild(more + WILD), "r")), ("TooLarge", "spots"))


if __name__ == "__main__":
    unittest.main()
