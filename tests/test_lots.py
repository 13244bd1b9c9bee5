"""[81] to [83]: which unnamed guards to name, against all lots and against all short weavings."""

import itertools
import unittest

from helpers import LARGE_HOUSE, ODD_VALUES, TEXTS, THING, error_of
from random_houses import careless_house, lock_house, nested_house, random_house
from woven_oracle import Woven
from handsroom.bareness import find_bare
from handsroom.changing import naming
from handsroom.errors import BadPlace, TooLarge
from handsroom.guards import makers
from handsroom.houses import House
from handsroom.lots import cover, least_lots, mends, unnamed_places
from handsroom.needs import requests_of
from handsroom.nesting import house_nests
from handsroom.rings import find_ring
from handsroom.twohands import find_stale_woven

TEXT = "\n".join([
    "lock a", "lock b", "kind box a f", "body lend : +a =a", "body hit : +b", "routine s x:box",
    "with take a, call lend", "do read x f", "close", "do take b, take a as g", "do keep x f", "done",
    "routine r x:box", "either", "do call lend", "do write x f", "or", "with take a", "do skip", "close", "do hit",
    "close", "do call lend as h", "done"]).replace("do hit", "do call hit")
HOUSE = House.read(TEXT)
CARELESS = House.read("lock a\nkind box a f\nroutine r x:box\ndo take a, read x f\ndo take a\ndo keep x f\ndone\n"
                      "routine w y:box\nwith take a\ndo write y f\nclose\ndone")


def kinds_of_faults(house):
    """Whether a house has BARE, and whether it has STALE turns."""
    return find_bare(house) is not None, find_stale_woven(house) is not None


def all_lots(places):
    return [lot for many in range(len(places) + 1) for lot in itertools.combinations(places, many)]


class PlacesTest(unittest.TestCase):
    def test_unnamed_places(self):
        self.assertEqual(unnamed_places(HOUSE), (
            ("s", 0, 0), ("s", 0, 1), ("s", 3, 0), ("r", 1, 0), ("r", 4, 0)))
        self.assertEqual(unnamed_places(House.read("kind k - n\nroutine r\ndone")), ())

    def test_they_are_those_that_can_be_named(self):
        for house in [House.read(text) for text in TEXTS] + [random_house(seed, routines=2) for seed in range(60)]:
            want = []
            for routine in house.routines:
                for number, row in enumerate(routine.rows):
                    for index in range(len(row.deeds)):
                        if error_of(naming, house, [(routine.name, number, index)]) is None:
                            want.append((routine.name, number, index))
            self.assertEqual(unnamed_places(house), tuple(want))

    def test_covers(self):
        self.assertEqual(cover(HOUSE, ("s", 0, 0)), (3, 4))
        self.assertEqual(cover(HOUSE, ("s", 0, 1)), (3, 4))
        self.assertEqual(cover(HOUSE, ("s", 3, 0)), (4,))
        # Ahead of the or row that ends the part.
        self.assertEqual(cover(HOUSE, ("r", 1, 0)), (2,))
        self.assertEqual(cover(HOUSE, ("r", 4, 0)), (7,))
        house = House.read("lock a\nkind k - n\nroutine r\ndo skip\ndo take a\ndone")
        self.assertEqual(cover(house, ("r", 1, 0)), ())

    def test_covers_lie_between_the_end_rows_without_and_with_a_name(self):
        checked = 0
        for seed in range(60):
            house = lock_house(seed, rows=5)
            for place in unnamed_places(house):
                ends = [[maker for maker in makers(one, place[0]) if (maker.row, maker.deed) == place[1:]][0].end_row
                        for one in (house, naming(house, [place]))]
                self.assertEqual(cover(house, place), tuple(range(ends[0] + 1, ends[1])))
                checked += ends[0] + 1 < ends[1]
        self.assertGreater(checked, 60)

    def test_wrong_places(self):
        wrong = [("s", 3, 1), ("s", 1, 0), ("s", 2, 0), ("s", 5, 0), ("s", -1, 0), ("s", 0, 2), ("s", 0), ["s", 0, 0],
                 ("x", 0, 0), ("s", 0, True), ("s", False, 0), ("r", 8, 0), ("s", 0, 0, 0), (0, 0, 0)]
        for value in wrong + list(ODD_VALUES) + [THING]:
            self.assertEqual(error_of(cover, HOUSE, value), ("BadPlace", value))
            self.assertEqual(error_of(mends, HOUSE, [("s", 0, 0), value, ("s", 9, 9)]), ("BadPlace", value))
            self.assertEqual(error_of(mends, HOUSE, (value,), bare=False, stale=False), ("BadPlace", value))
        for call in (lambda: cover(HOUSE, 5), lambda: mends(HOUSE, [5])):
            with self.assertRaises(BadPlace):
                call()


class MendsTest(unittest.TestCase):
    def test_what_is_asked_for(self):
        first, second = unnamed_places(CARELESS)[:2]
        # Without a name the second guard ends ahead of the keep. Another hand may write between.
        self.assertEqual(kinds_of_faults(CARELESS), (False, True))
        self.assertIs(mends(CARELESS, []), False)
        self.assertIs(mends(CARELESS, [], stale=False), True)
        self.assertIs(mends(CARELESS, [], bare=False), False)
        self.assertIs(mends(CARELESS, [], bare=False, stale=False), True)
        self.assertIs(mends(CARELESS, [second]), False)
        self.assertIs(mends(CARELESS, [first]), True)
        self.assertIs(mends(CARELESS, (second, first, second)), True)

    def test_bare(self):
        house = House.read("lock a\nkind box a f\nroutine r x:box\ndo take a\ndo read x f\ndone")
        self.assertEqual(kinds_of_faults(house), (True, False))
        for lot, want in (([], False), ([("r", 0, 0)], True)):
            self.assertIs(mends(house, lot), want)
            self.assertIs(mends(house, lot, stale=False), want)
            self.assertIs(mends(house, lot, bare=False), True)
            self.assertIs(mends(house, lot, stale=False, bare=False), True)

    def test_against_all_short_weavings(self):
        """With a fault in a short weaving of its named house a lot does not mend."""
        counts = {}
        for seed in range(60):
            house = careless_house(seed)
            for lot in all_lots(unnamed_places(house)[:3]):
                named = naming(house, lot)
                keeps = {(one.name, at) for one in named.routines for at, point in enumerate(self.points(named, one.name))
                         if point.step[0] == "keep"}
                found = set(Woven(named, 2, 6, most_states=3000).opened) & keeps
                if found:
                    self.assertIs(mends(house, lot, bare=False), False)
                known = kinds_of_faults(named)
                for bare, stale in itertools.product((True, False), repeat=2):
                    want = not (bare and known[0] or stale and known[1])
                    self.assertIs(mends(house, lot, bare=bare, stale=stale), want)
                counts[(bool(found), known[1])] = counts.get((bool(found), known[1]), 0) + 1
        self.assertGreater(min(counts[(True, True)], counts[(False, False)]), 40)

    def points(self, house, name):
        from handsroom.spreading import Spread
        return Spread(house, name).points


class LeastTest(unittest.TestCase):
    def test_the_least_lots(self):
        first, second = unnamed_places(CARELESS)[:2]
        self.assertEqual(least_lots(CARELESS), ((first,),))
        self.assertEqual(least_lots(CARELESS, stale=False), ((),))
        self.assertEqual(least_lots(CARELESS, bare=False, stale=False), ((),))

    def test_no_lot_mends(self):
        house = House.read("lock a\nkind box a f\nroutine r x:box\ndo read x f\ndo take a\ndone")
        self.assertEqual(least_lots(house), ())
        self.assertEqual(least_lots(house, bare=False), ((),))
        self.assertEqual(least_lots(House.read("kind k - n\nroutine r x:k\ndo keep x n\ndone")), ())

    def test_several_least_lots(self):
        """Either guard is enough; in the second house both are needed."""
        house = House.read("lock a\nlock b\nkind box a f\nbody lend : +a =a\nroutine r x:box\ndo call lend\nblock\n"
                           "do take b\nclose\neither\ndo take a\ndo read x f\nclose\ndone")
        self.assertEqual(least_lots(house), ((("r", 0, 0),), (("r", 5, 0),)))
        house = House.read("lock a\nkind box a f\nroutine r x:box\neither\ndo take a\ndo read x f\nor\ndo take a\n"
                           "do read x f\nclose\ndone")
        self.assertEqual(least_lots(house), ((("r", 1, 0), ("r", 4, 0)),))

    def test_smaller_ones_come_first(self):
        house = House.read("lock a\nkind box a f\nroutine r x:box\neither\ndo take a, skip\ndo skip\nor\ndo take a\nclose\n"
                           "do take a\ndo read x f\ndone")
        self.assertEqual(least_lots(house), ((("r", 6, 0),),))

    def test_against_all_lots(self):
        sizes = {}
        for seed in range(250):
            house = careless_house(seed, routines=1 + seed % 2)
            places = unnamed_places(house)
            if len(places) > 5:
                continue
            for more in ({}, {"bare": False}, {"stale": False}) if seed % 5 == 0 else ({},):
                good = [lot for lot in all_lots(places) if mends(house, lot, **more)]
                want = [lot for lot in good if not any(set(other) < set(lot) for other in good)]
                found = least_lots(house, **more)
                self.assertEqual(found, tuple(want))
                for lot in all_lots(places):
                    self.assertEqual(any(set(one) <= set(lot) for one in found), lot in good)
                sizes[len(found)] = sizes.get(len(found), 0) + 1
        self.assertGreater(min(sizes[0], sizes[1]), 40)
        self.assertGreater(sum(many for size, many in sizes.items() if size > 1), 2)

    def test_too_many_places(self):
        rows = "do take a\n" * 6
        text = "lock a\nkind box a f\nroutine r x:box\n%sdone"
        self.assertEqual(least_lots(House.read(text % rows)), ((),))
        house = House.read(text % (rows + "do take a\n"))
        self.assertEqual(error_of(least_lots, house), ("TooLarge", "places"))
        self.assertEqual(error_of(least_lots, house, bare=False, stale=False), ("TooLarge", "places"))
        with self.assertRaises(TooLarge):
            least_lots(house)
        # A guard with a name is not counted.
        self.assertEqual(least_lots(House.read(text % (rows + "do take a as g\n"))), ((),))

    def test_tables_that_are_too_large(self):
        house = House.read(LARGE_HOUSE)
        self.assertEqual(error_of(least_lots, house), ("TooLarge", "spots"))
        self.assertEqual(error_of(mends, house, []), ("TooLarge", "spots"))
        self.assertIs(mends(house, [], bare=False, stale=False), True)


class RequestsTest(unittest.TestCase):
    """[83]: what naming does to requests and rings."""

    def takes(self, house, name, row):
        for deed in house.routine_of(name).rows[row].deeds:
            if deed[0] == "take" or deed[0] == "call" and house.signature_of(deed[1]).takes:
                return True
        return False

    def test_covers_without_takes(self):
        kinds = {True: 0, False: 0}
        for seed in range(200):
            house = nested_house(seed) if seed % 2 else careless_house(seed)
            places = unnamed_places(house)
            for lot in [places[:1], places[1:3], places[-2:]]:
                named = naming(house, lot)
                before, behind = requests_of(house), requests_of(named)
                held = [lock for place in lot for maker in makers(house, place[0])
                        if (maker.row, maker.deed) == place[1:] for lock in maker.locks]
                for union, wanted in behind:
                    self.assertTrue(any(set(one) <= set(union) and set(union) - set(one) <= set(held)
                                        for one, lock in before if lock == wanted))
                quiet = not any(self.takes(house, place[0], row) for place in lot for row in cover(house, place))
                if quiet:
                    self.assertEqual({one: before[one] for one in before}, {one: behind[one] for one in behind})
                    if house_nests(house) and house_nests(named):
                        self.assertEqual(find_ring(house) is None, find_ring(named) is None)
                kinds[quiet] += len(lot) > 0
        self.assertGreater(min(kinds.values()), 100)


if __name__ == "__main__":
    unittest.main()
