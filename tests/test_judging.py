"""[45] to [47]: held tables, statuses of demands, stale keeps."""

import random
import unittest

from helpers import NO_NUMBERS, TEXTS, error_of
from random_houses import random_house, random_path
from sheet_oracle import Sheets
from test_tables import wild
from handsroom.bareness import Finding
from handsroom.houses import House
from handsroom.judging import HeldTable, demand_statuses, find_stale
from handsroom.lonetable import START, locks_of, lone_path, next_nodes
from handsroom.loneruns import play
from handsroom.marks import Marked, first_marked, marked_after
from handsroom.runs import marked_records
from handsroom.spreading import Spread
from handsroom.tables import RoomTable

HEAD = "lock m\nlock n\nkind box m size\nkind bag - size\nbody tidy : +m box.size\nbody fill box : box.size\n"


def house(*rows, names="a:box b:box c:bag"):
    return House.read(HEAD + "\n".join(["routine r " + names, *rows, "done"]))


def table(*rows):
    return HeldTable(Spread(house(*rows), "r"))


def loop(*deeds):
    """Rows each pass of which may do any of these deeds."""
    return ["repeat"] + [row for deed in deeds for row in ("either", "do " + deed, "close")] + ["close"]


LARGE = ["do skip"] + loop("fetch w y", "copy x z", "copy z w", "read z n", "fetch y x")


def statuses(*rows):
    return demand_statuses(table(*rows))


def spots_by_hand(spread):
    """The spots (node, key, depth, parent, nexts) as [45] tells them; None if there are more than 600."""
    found = [(START, first_marked(spread).key())]
    rows = [[first_marked(spread), 0, None, None]]
    for at, (node, _) in enumerate(found):
        if len(found) > 600:
            return None
        behind = marked_after(spread, locks_of(node[1]), rows[at][0], spread.points[node[0]].step)
        rows[at][3] = []
        for after in next_nodes(spread, node):
            key = (after, behind.key())
            if key not in found:
                found.append(key)
                rows.append([behind, rows[at][1] + 1, at, None])
            rows[at][3].append(found.index(key))
    return [key + tuple(row[1:3]) + (tuple(row[3]),) for key, row in zip(found, rows)]


class TableTest(unittest.TestCase):
    def test_a_table(self):
        spread = Spread(house("repeat", "do read a size", "close"), "r")
        held = HeldTable(spread)
        self.assertIsInstance(held, RoomTable)
        self.assertIs(held.spread, spread)
        told = [(one.number, one.node, one.record.known, one.depth, one.parent, one.nexts) for one in held]
        known = (("a", "size"),)
        self.assertEqual(told, [
            (0, (0, ()), (), 0, None, (1, 2)), (1, (1, ()), (), 1, 0, (3,)), (2, (2, ()), (), 1, 0, ()),
            (3, (0, ()), known, 2, 1, (4, 5)), (4, (1, ()), known, 3, 3, (3,)), (5, (2, ()), known, 3, 3, ())])
        self.assertEqual((len(held), list(held), type(held.spots)), (6, list(held.spots), tuple))
        self.assertIs(type(held.spots[3].record), Marked)
        self.assertEqual(held.spots_at(1), (held.spots[1], held.spots[4]))
        self.assertEqual(held.way_to(5), ((0, ()), (1, ()), (0, ()), (2, ())))
        path = [(0, ()), (1, ()), (0, ()), (1, ()), (0, ()), (2, ())]
        self.assertEqual([held.spot_of(path[:at]) for at in range(1, 7)], [0, 1, 3, 4, 3, 5])
        self.assertEqual(error_of(held.spot_of, path + [START]), ("BadPath", 6))
        for value in NO_NUMBERS + (-1, 3):
            self.assertEqual(error_of(held.spots_at, value), ("BadPoint", value))
        self.assertEqual([held.is_known(spot) for spot in held], [False, False, False, False, True, False])
        self.assertIs(held.is_known(held.spots[4]), True)
        self.assertIs(held.is_known(held.spots[0]), False)

    def test_against_all_spots(self):
        rng = random.Random(41)
        houses = [House.read(text) for text in TEXTS] + [random_house(seed, rows=9) for seed in range(120)]
        for one in houses:
            for routine in one.routines:
                spread = Spread(one, routine.name)
                want = spots_by_hand(spread)
                if want is None:
                    self.assertEqual(error_of(HeldTable, spread), ("TooLarge", "spots"))
                    continue
                held = HeldTable(spread)
                told = [(spot.node, spot.record.key(), spot.depth, spot.parent, spot.nexts) for spot in held]
                self.assertEqual((told, [spot.number for spot in held]), (want, list(range(len(want)))))
                self.check_ways(rng, spread, held)

    def check_ways(self, rng, spread, held):
        for spot in held.spots[::3]:
            way = held.way_to(spot.number)
            self.assertEqual((lone_path(spread, way), len(way) - 1), (way, spot.depth))
            record = list(marked_records(spread, way))[-1]
            self.assertEqual((held.spot_of(list(way)), record.key()), (spot.number, spot.record.key()))
            point = spread.points[spot.node[0]]
            demand = point.step[0] in ("read", "keep")
            self.assertEqual(held.is_known(spot), demand and (point.step[1:3] in record.known))
        path = random_path(rng, spread, 15)
        self.assertEqual(held.spots[held.spot_of(path)].record.key(), list(marked_records(spread, path))[-1].key())

    def test_the_bound(self):
        self.assertEqual(HeldTable.MOST_SPOTS, 600)
        one = wild(loop("fetch w y", "copy x z", "copy z w", "read z n", "fetch y x"))
        self.assertEqual((len(HeldTable(Spread(one, "r"))), len(RoomTable(Spread(one, "r")))), (600, 192))
        self.assertIsNone(find_stale(one))
        for more in (["do skip"], ["do skip, skip"], ["either", "close"]):
            large = wild(more + loop("fetch w y", "copy x z", "copy z w", "read z n", "fetch y x"))
            self.assertEqual(error_of(HeldTable, Spread(large, "r")), ("TooLarge", "spots"))
            self.assertEqual(len(HeldTable(Spread(large, "s"))), 1)
            self.assertEqual(error_of(find_stale, large), ("TooLarge", "spots"))
        # Marks part spots that one room spot has in common, so a held table can be too large alone.
        large = wild(loop("fetch w y", "copy x z", "copy z w", "make w", "read z n"))
        self.assertEqual(error_of(HeldTable, Spread(large, "r")), ("TooLarge", "spots"))
        self.assertEqual(len(RoomTable(Spread(large, "r"))), 384)


class StatusTest(unittest.TestCase):
    def test_statuses(self):
        self.assertEqual(statuses("do read a size, read a size, keep a size, write b size, keep a size, keep b size"),
                         ("needed", "spared", "spared", None, "needed", "spared", None))
        self.assertEqual(statuses("either", "do read a size", "close", "do keep a size"),
                         (None, "needed", "mixed", None))
        self.assertEqual(statuses("do take n as g, take n, read a size, keep c size")[:4],
                         (None, None, "never", "never"))
        self.assertEqual(statuses("do make a, keep a size, call tidy, read a size, put a, call tidy, read a size"),
                         (None, "spared", None, "spared", None, None, "needed", None))
        self.assertEqual(statuses("repeat", "do read c size", "close"), (None, "mixed", None))
        self.assertEqual(statuses("with take m", "do read a size, call tidy, keep a size", "close")[:4],
                         (None, "needed", None, "spared"))
        self.assertEqual(statuses(), (None,))

    def test_against_all_runs(self):
        """[47]: "needed" and "mixed" demands are those that some run of some short path shows another number at."""
        rng = random.Random(42)
        seen = {}
        for seed in range(250):
            spread = Spread(random_house(seed + 100, rows=6, names=2), "r")
            held = HeldTable(spread)
            found = demand_statuses(held)
            self.assertEqual((len(found), type(found)), (len(spread.points), tuple))
            for _ in range(6):
                path = random_path(rng, spread, 9)
                for at, (point, _) in enumerate(path):
                    step = spread.points[point].step
                    if step[0] not in ("read", "keep"):
                        self.assertIsNone(found[point])
                        continue
                    if sum(spread.points[node[0]].step[0] == "fetch" for node in path[:at]) > 2:
                        break
                    fresh = Sheets(spread, path[:at + 1]).entries(step[1], step[2]) == {"e"}
                    self.assertEqual(held.is_known(held.spots[held.spot_of(path[:at + 1])]), fresh)
                    self.assertIn(found[point], ("spared", "mixed") if fresh else ("needed", "mixed"))
                    seen[found[point]] = seen.get(found[point], 0) + 1
        self.assertGreater(min(seen.values()), 10)
        self.assertEqual(len(seen), 3)

    def test_against_the_spots(self):
        seen = {}
        for seed in range(150):
            held = HeldTable(Spread(random_house(seed, rows=9), "r"))
            for point, status in enumerate(demand_statuses(held)):
                known = [held.is_known(spot) for spot in held if spot.node[0] == point]
                want = "never" if not known else "spared" if all(known) else "mixed" if any(known) else "needed"
                if held.spread.points[point].step[0] not in ("read", "keep"):
                    want = None
                self.assertEqual(status, want)
                seen[status] = True
        self.assertEqual(len(seen), 5)


class FindingTest(unittest.TestCase):
    def test_none(self):
        self.assertIsNone(find_stale(house("do read a size, keep a size, make b, keep b size")))
        self.assertIsNone(find_stale(house("do read a size, read a size")))
        self.assertIsNone(find_stale(house("do take n, take n", "do keep a size")))

    def test_a_finding(self):
        given = house("do read a size", "either", "do skip", "or", "do write b size", "close", "do keep a size")
        found = find_stale(given)
        self.assertIsInstance(found, Finding)
        self.assertEqual((found.name, len(found.way)), ("r", 4))
        played = play(Spread(given, "r"), found.way, found.run)
        self.assertEqual((played.faults[-1], played.shown[-1] is None), ("stale", False))

    def test_the_earliest_routine_and_the_least_depth(self):
        rows = {"late": "do skip, skip, keep x size", "soon": "do skip, keep x size", "safe": "do make x, keep x size"}

        def named(*words):
            text = HEAD + "\n".join(f"routine r{at} x:box\n{rows[word]}\ndone" for at, word in enumerate(words))
            return find_stale(House.read(text)).name
        self.assertEqual(named("late", "soon", "safe", "soon"), "r1")
        self.assertEqual(named("soon", "late", "soon"), "r0")
        self.assertEqual(named("safe", "late", "late"), "r1")

    def test_the_least_number(self):
        found = find_stale(house("either", "do keep a size", "or", "do keep b size", "close"))
        self.assertEqual(found.way, ((0, ()), (1, ())))

    def test_random_houses(self):
        found_some = none = 0
        for seed in range(300):
            one = random_house(seed, rows=8, routines=2)
            tables = [HeldTable(Spread(one, routine.name)) for routine in one.routines]
            stale = [(spot.depth, at, spot.number) for at, held in enumerate(tables) for spot in held
                     if held.spread.points[spot.node[0]].step[0] == "keep" and not held.is_known(spot)]
            finding = find_stale(one)
            if not stale:
                none += 1
                self.assertIsNone(finding)
                continue
            found_some += 1
            _, at, number = min(stale)
            self.assertEqual((finding.name, finding.way), (one.routines[at].name, tables[at].way_to(number)))
            played = play(tables[at].spread, finding.way, finding.run)
            self.assertEqual((played.faults[-1], "stale" in played.faults[:-1]), ("stale", False))
        self.assertGreater(min(found_some, none), 40)

    def test_too_large(self):
        text = HEAD + "routine r x:box\ndo keep x size\ndone\nroutine s x:bag y:bag z:bag w:bag\n"
        rows = [row.replace(" n", " size") for row in LARGE]
        self.assertEqual(error_of(find_stale, House.read(text + "\n".join(rows + ["done"]))), ("TooLarge", "spots"))
        self.assertEqual(len(find_stale(House.read(text.partition("\nroutine s")[0])).way), 1)


if __name__ == "__main__":
    unittest.main()
