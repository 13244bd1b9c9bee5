"""[48], [49]: spared reads and the kept house."""

import itertools
import random
import unittest

from helpers import TEXTS, error_of
from random_houses import busy_house, random_house, random_path
from test_judging import HEAD, LARGE, house
from handsroom.bareness import touch_statuses
from handsroom.changing import keeping
from handsroom.errors import TooLarge
from handsroom.houses import House
from handsroom.joining import joined_run
from handsroom.judging import HeldTable, demand_statuses, find_stale
from handsroom.lonetable import LoneTable
from handsroom.loneruns import play
from handsroom.routines import each_deed
from handsroom.runs import stale_run
from handsroom.spared import kept, spared
from handsroom.spreading import Spread
from handsroom.tables import RoomTable


def reads_of(one):
    return [(routine.name, row, index) for routine in one.routines for row, index, deed in each_deed(routine)
            if deed[0] == "read"]


def statuses_of(one):
    return [demand_statuses(HeldTable(Spread(one, routine.name))) for routine in one.routines]


class SparedTest(unittest.TestCase):
    def test_spared(self):
        one = house("do read a size, read a size, keep a size", "do write b size, read b size, read a size", "do make c",
                    "with skip, read c size", "close")
        self.assertEqual(spared(one), (("r", 0, 1), ("r", 1, 1), ("r", 3, 1)))
        self.assertEqual(kept(one).routine_of("r").text(), "\n".join([
            "routine r a:box b:box c:bag", "do read a size, keep a size, keep a size",
            "do write b size, keep b size, read a size", "do make c", "with skip, keep c size", "close", "done"]))

    def test_reads_that_are_never_reached_are_spared(self):
        one = house("do take n as g, take n, read a size")
        self.assertEqual(spared(one), (("r", 0, 2),))

    def test_none(self):
        one = house("do read a size, keep a size")
        self.assertEqual((spared(one), kept(one)), ((), one))

    def test_the_order_of_the_routines(self):
        text = HEAD + "routine z a:box\ndo read a size, read a size\ndone\nroutine b a:box\ndo make a, read a size\ndone"
        self.assertEqual(spared(House.read(text)), (("z", 0, 1), ("b", 0, 1)))

    def test_too_large(self):
        text = HEAD + "routine r x:box\ndo keep x size\ndone\nroutine s x:bag y:bag z:bag w:bag\n"
        large = House.read(text + "\n".join([row.replace(" n", " size") for row in LARGE] + ["done"]))
        for ask in (spared, kept):
            self.assertEqual(error_of(ask, large), ("TooLarge", "spots"))

    def test_against_the_statuses(self):
        seen = 0
        for seed in range(500):
            one = random_house(seed, rows=8, routines=2)
            want = []
            for routine in one.routines:
                spread = Spread(one, routine.name)
                found = demand_statuses(HeldTable(spread))
                want += [(routine.name, point.row, point.deed) for at, point in enumerate(spread.points)
                         if point.step[0] == "read" and found[at] in ("spared", "never")]
            self.assertEqual(spared(one), tuple(want))
            self.assertEqual(kept(one), keeping(one, want))
            seen += len(want)
        self.assertGreater(seen, 60)

    def test_all_sets_of_reads(self):
        """[48]: just the sets of spared reads can be replaced, and each point keeps its status."""
        fresh = stale = 0
        for seed in range(900):
            one = random_house(seed + 50, rows=8, routines=2)
            reads = reads_of(one)[:4]
            good = find_stale(one) is None
            for many in range(1, len(reads) + 1):
                for chosen in itertools.combinations(reads, many):
                    other = keeping(one, chosen)
                    within = all(place in spared(one) for place in chosen)
                    self.assertEqual(find_stale(other) is None, good and within)
                    fresh, stale = fresh + (good and within), stale + (not within)
                    if within:
                        self.assertEqual(statuses_of(one), statuses_of(other))
                        left = tuple(place for place in spared(one) if place not in chosen)
                        self.assertEqual(spared(other), left)
        self.assertGreater(min(fresh, stale), 50)

    def test_the_kept_house(self):
        """[49]: it has the same lone paths, and no point is bare there that was not."""
        houses = [House.read(text) for text in TEXTS] + [random_house(seed, rows=8, routines=2) for seed in range(60)]
        for one in houses:
            try:
                other = kept(one)
            except TooLarge:
                continue
            self.assertEqual([place for place in spared(other)], [])
            for routine in one.routines:
                spreads = [Spread(given, routine.name) for given in (one, other)]
                self.assertEqual(*[LoneTable(spread).nodes for spread in spreads])
                before, after = [touch_statuses(RoomTable(spread)) for spread in spreads]
                for point in range(len(before)):
                    self.assertIn(after[point], (before[point], None))

    def test_runs_of_the_kept_house(self):
        """[49]: a run is a run of the kept house, too, and the same numbers are shown."""
        rng = random.Random(49)
        shown = 0
        for seed in range(300):
            one = busy_house(seed, rows=8, names=3)
            other = kept(one)
            if other == one:
                continue
            for routine in one.routines:
                spread, twin = Spread(one, routine.name), Spread(other, routine.name)
                path = random_path(rng, spread, 15)
                runs = [joined_run(spread, path)]
                runs += [stale_run(spread, path, name, one.fields_of(kind)[0]) for name, kind in routine.names]
                for run in [run for run in runs if run is not None]:
                    first, second = play(spread, path, run), play(twin, path, run)
                    self.assertEqual((first.shown, first.contents), (second.shown, second.contents))
                    shown += len([number for number in first.shown if number is not None])
        self.assertGreater(shown, 100)


if __name__ == "__main__":
    unittest.main()
