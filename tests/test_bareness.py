"""[40]: bare spots, statuses, the finding, settled houses."""

import random
import unittest

from helpers import BASIC, SETTLED, TEXTS, WORDS, error_of
from random_houses import random_house, random_path
from run_oracle import Player
from test_tables import WILD
from handsroom.bareness import Finding, find_bare, is_settled, touch_statuses
from handsroom.errors import TooLarge
from handsroom.houses import House
from handsroom.loneruns import Run, play
from handsroom.spreading import Spread
from handsroom.tables import RoomTable
from handsroom.touches import bare_names, touched

HEAD = "lock m\nlock n\nkind box m size\nkind bag - size\nbody fill box : box.size\nbody other box : bag.size\n"


def house(*rows, names="a:box b:box c:bag"):
    return House.read(HEAD + "\n".join(["routine r " + names, *rows, "done"]))


def statuses(*rows):
    return touch_statuses(RoomTable(Spread(house(*rows), "r")))


class StatusTest(unittest.TestCase):
    def test_statuses(self):
        self.assertEqual(statuses("with take m", "do write a size, call fill b", "close", "do read a size"), (
            None, "safe", "safe", None, "bare", None))
        self.assertEqual(statuses("do read a size, keep a size, read c size, call other a, call fill b, make a"), (
            "bare", None, "safe", None, "bare", None, None))
        self.assertEqual(statuses("either", "do make a", "close", "do read a size"), (None, None, "mixed", None))
        self.assertEqual(statuses("do take n as g, take n, write a size")[:3], (None, None, "never"))
        self.assertEqual(statuses("either", "do take m as g", "do write a size", "close", "do make a, put a",
                                  "do read a size, fetch b, read b size")[2:9], (
            "safe", None, None, None, "bare", None, "bare"))
        self.assertEqual(statuses("do make a, copy b a, read b size, put a, read b size"), (
            None, None, "safe", None, "bare", None))
        self.assertEqual(statuses("repeat", "with take n, take m", "do write a size", "close", "close"), (
            None, None, None, "safe", None, None, None))
        self.assertEqual(statuses(), (None,))

    def test_against_the_spots(self):
        houses = [House.read(text) for text in TEXTS] + [random_house(seed, rows=9) for seed in range(150)]
        seen = {}
        for one in houses:
            for routine in one.routines:
                try:
                    table = RoomTable(Spread(one, routine.name))
                except TooLarge:
                    continue
                found = touch_statuses(table)
                self.assertEqual(len(found), len(table.spread.points))
                for point, status in enumerate(found):
                    spots = [spot for spot in table if spot.node[0] == point]
                    bare = [bool(bare_names(table.spread, spot.node, spot.record)) for spot in spots]
                    want = "never" if not bare else "bare" if all(bare) else "mixed" if any(bare) else "safe"
                    if not touched(table.spread, table.spread.points[point].step):
                        want = None
                    self.assertEqual(status, want)
                    seen[status] = True
        self.assertEqual(len(seen), 5)

    def test_bare_spots_and_random_runs(self):
        """A run makes the fault next exactly if its spot is bare."""
        rng = random.Random(17)
        faults = 0
        for seed in range(300):
            one = random_house(seed, rows=8)
            spread = Spread(one, "r")
            table = RoomTable(spread)
            path = random_path(rng, spread, 12)
            objects = [(kind, tuple(0 for _ in one.fields_of(kind))) for kind in one.kinds for _ in range(2)]
            kinds = [kind for _, kind in one.routine_of("r").names]
            start = [rng.choice([at for at, row in enumerate(objects) if row[0] == kind]) for kind in kinds]
            player, at = Player(spread, Run(objects, start, [])), 0
            while True:
                spot = table.spots[table.spot_of(path[:at + 1])]
                bare = bare_names(spread, spot.node, spot.record) != ()
                self.assertEqual(player.moment(path[at])[-1] == "bare", bare)
                faults += bare
                possible = player.answers(path[at], path[at + 1]) if at + 1 < len(path) else []
                if not possible:
                    break
                player.step(spread.points[path[at][0]].step, rng.choice(possible))
                at += 1
        self.assertGreater(faults, 30)


class FindingTest(unittest.TestCase):
    def test_the_class(self):
        way, run = [(0, ())], Run([], [], [])
        finding = Finding("r", tuple(way), run)
        self.assertEqual((finding.name, finding.way), ("r", ((0, ()),)))
        self.assertIs(finding.run, run)

    def test_none(self):
        self.assertIsNone(find_bare(house("with take m", "do read a size", "close", "do read c size, make a, read a size")))
        self.assertIsNone(find_bare(house("do take n, take n", "do read a size")))

    def test_a_finding(self):
        given = house("do skip, make a", "either", "do skip", "or", "do put a", "close", "do write a size")
        found = find_bare(given)
        self.assertEqual(found.name, "r")
        self.assertEqual([given.routine_of("r").rows[Spread(given, "r").points[node[0]].row].text() for node in found.way],
                         ["do skip, make a"] * 2 + ["either", "do put a", "do write a size"])
        played = play(Spread(given, "r"), found.way, found.run)
        self.assertEqual(played.faults, (None,) * 4 + ("bare",))

    def test_the_earliest_routine_and_the_least_depth(self):
        rows = {"late": "do skip, skip, read x size", "soon": "do skip, read x size", "safe": "do make x"}

        def named(*words):
            text = HEAD + "\n".join(f"routine r{at} x:box\n{rows[word]}\ndone" for at, word in enumerate(words))
            return find_bare(House.read(text)).name
        self.assertEqual(named("late", "soon", "safe", "soon"), "r1")
        self.assertEqual(named("soon", "late", "soon"), "r0")
        self.assertEqual(named("safe", "late", "late"), "r1")

    def test_the_least_number(self):
        given = house("either", "do read a size", "or", "do read b size", "close")
        self.assertEqual(find_bare(given).way, ((0, ()), (1, ())))

    def test_random_houses(self):
        found_some = 0
        for seed in range(200):
            one = random_house(seed, rows=8, routines=2)
            tables = [RoomTable(Spread(one, routine.name)) for routine in one.routines]
            bare = [(spot.depth, at, spot.number) for at, table in enumerate(tables) for spot in table
                    if bare_names(table.spread, spot.node, spot.record)]
            finding = find_bare(one)
            if not bare:
                self.assertIsNone(finding)
                continue
            found_some += 1
            _, at, number = min(bare)
            self.assertEqual((finding.name, finding.way), (one.routines[at].name, tables[at].way_to(number)))
            played = play(tables[at].spread, finding.way, finding.run)
            self.assertEqual(played.faults.index("bare"), len(finding.way) - 1)
            leads = played.leads[-1]
            blocks = tables[at].spots[number].record.blocks
            self.assertEqual(len(set(leads)), len(blocks))
        self.assertGreater(found_some, 40)

    def test_too_large(self):
        # The table of any routine counts, also if an earlier routine has a bare spot.
        text = HEAD + "routine r x:box\ndo read x size\ndone\nroutine s x:bag y:bag z:bag w:bag\n"
        self.assertEqual(error_of(find_bare, House.read(text + "\n".join(["do skip"] + WILD + ["done"]))),
                         ("TooLarge", "spots"))
        self.assertEqual(len(find_bare(House.read(text + "\n".join(WILD + ["done"]))).way), 1)
        self.assertEqual(len(find_bare(House.read(text.partition("\nroutine s")[0])).way), 1)


class SettledTest(unittest.TestCase):
    def test_settled(self):
        self.assertIs(is_settled(House.read(SETTLED)), True)
        self.assertIs(is_settled(House.read(WORDS)), False)
        self.assertIs(is_settled(House.read(BASIC)), False)
        self.assertIs(is_settled(house("do make a, fetch a")), True)
        self.assertIs(is_settled(house("block", "with skip, put a", "close", "close")), False)
        shared = "kind k - n\nbody b k k* :\nroutine r\ndone"
        self.assertIs(is_settled(House.read(shared)), False)
        self.assertIs(is_settled(House.read(shared.replace("*", ""))), True)
        self.assertIs(is_settled(House.read(shared.replace("*", "") + "\nroutine s x:k\ndo put x\ndone")), False)


if __name__ == "__main__":
    unittest.main()
