"""[96], [97]: replaceable reads and the rewritten house, against weavings of both houses."""

import random
import unittest

from floor_oracle import random_firsts
from helpers import LARGE_HOUSE, TEXTS, error_of
from random_houses import TAIL_WORDS, busy_house, careless_house, lock_house, random_house
from test_carrying import Second, random_weaving
from test_tails import counted_as
from test_verdicts import reading_first
from handsroom.changing import keeping
from handsroom.errors import TooLarge
from handsroom.houses import House
from handsroom.needs import requests_of
from handsroom.replay import replay
from handsroom.rewriting import replaceable, rewritten
from handsroom.rings import least_ring
from handsroom.tails import early_house
from handsroom.twohands import open_places, spared_for_all
from handsroom.verdicts import Verdict, bare_places, stale_places

HEAD = "lock a\nlock b\nkind box a f\nkind bag - n\nroutine r x:box y:box u:bag\n"


def house_of(*rows, others=""):
    return House.read(HEAD + "\n".join(rows + ("done",)) + others)


WRITER = "\nroutine w x:box u:bag\nwith take a\ndo write x f\nclose\ndone"


class ReplaceableTest(unittest.TestCase):
    def test_reads_that_are_fresh(self):
        house = house_of("with take a", "do read x f, read x f, keep x f", "close", "do read u n, read u n", others=WRITER)
        self.assertEqual(replaceable(house), (("r", 1, 1), ("r", 3, 1)))

    def test_bare_places_are_no_replaceable_reads(self):
        """A keep touches nothing, so it would hide the fault."""
        house = house_of("do read x f, read x f")
        self.assertEqual((spared_for_all(house), bare_places(house)), ((("r", 0, 1),), (("r", 0, 0), ("r", 0, 1))))
        self.assertEqual(replaceable(house), ())
        self.assertEqual(rewritten(house), house)

    def test_reads_that_are_never_reached(self):
        house = house_of("with take a", "do take a, read x f", "close")
        self.assertEqual(replaceable(house), (("r", 1, 1),))

    def test_the_order(self):
        text = HEAD.replace("routine r", "routine z") + "do read u n, read u n\ndo read u n\ndone\nroutine c v:bag\ndo make v, read v n\ndone"
        self.assertEqual(replaceable(House.read(text)), (("z", 0, 1), ("z", 1, 0), ("c", 0, 1)))

    def test_against_open_and_bare_places(self):
        counts = [0, 0]
        for seed in range(120):
            house = busy_house(seed, rows=6) if seed % 2 else reading_first(careless_house(seed))
            want = []
            opened, bare = open_places(house), bare_places(house)
            for routine in house.routines:
                for number, row in enumerate(routine.rows):
                    for index, deed in enumerate(row.deeds):
                        place = (routine.name, number, index)
                        if deed[0] == "read" and place not in opened and place not in bare:
                            want.append(place)
            self.assertEqual(replaceable(house), tuple(want))
            counts[want != []] += 1
        self.assertGreater(min(counts), 25)


class RewrittenTest(unittest.TestCase):
    def test_keeps_and_drops(self):
        house = house_of("do take a as g, read x f", "do make y, read y f", "do read u n, read u n", "do make x, write x f")
        self.assertEqual(rewritten(house).text(), house_of(
            "do take a as g, read x f", "do make y, keep y f", "do read u n, keep u n", "drop g", "do make x, write x f").text())

    def test_a_read_that_becomes_a_keep_is_quiet_if_it_was(self):
        house = house_of("do take a as g", "do make x", "do read x f")
        self.assertEqual(rewritten(house).text(), house_of("do take a as g", "drop g", "do make x", "do keep x f").text())

    def test_tables_that_are_too_large(self):
        for ask in (replaceable, rewritten):
            self.assertEqual(error_of(ask, House.read(LARGE_HOUSE)), ("TooLarge", "spots"))

    def houses(self):
        found = [House.read(text) for text in TEXTS] + [random_house(seed, rows=8, routines=2) for seed in range(50)]
        found += [lock_house(seed, rows=5) for seed in range(30)] + [busy_house(seed, rows=7) for seed in range(60)]
        found += [busy_house(seed, rows=8, words=TAIL_WORDS, named=0.9) for seed in range(120)]
        return found + [reading_first(careless_house(seed)) for seed in range(60)]

    def test_what_stays(self):
        rng, counts = random.Random(97), {}
        for house in self.houses():
            try:
                other = rewritten(house)
                self.assertEqual(other, early_house(keeping(house, replaceable(house))))
                self.assertEqual(rewritten(other), other)
                verdicts = [Verdict(one) for one in (house, other)]
                places = [(bare_places(one), stale_places(one)) for one in (house, other)]
            except TooLarge:
                continue
            kept = keeping(house, replaceable(house))
            rows = counted_as(kept, other)
            moved = tuple(tuple((name, rows[name][row], index) for name, row, index in one) for one in places[0])
            self.assertEqual(moved, places[1])
            self.assertEqual(verdicts[0].is_right, verdicts[1].is_right)
            self.assertEqual(*[least_ring(requests_of(one)) == () for one in (house, other)])
            self.check_weaving(rng, house, other, rows)
            for word, hits in (("same", house == other), ("keeps", kept != house), ("drops", other != kept),
                               ("right", verdicts[0].is_right), ("bare", places[1][0] != ()), ("stale", places[1][1] != ())):
                counts[word] = counts.get(word, 0) + hits
        self.assertGreater(min(counts.values()), 25, counts)

    def check_weaving(self, rng, house, other, rows):
        """A weaving becomes one of the rewritten house in which each hand shows the same numbers."""
        firsts = random_firsts(rng, house)
        second = Second(house, other, firsts, lambda *told: False,
                        lambda name, point: point.step[0] == "drop" and point.deed == -1 and self.is_new(other, rows, name, point))
        random_weaving(rng, house, firsts, second, 50)
        self.assertEqual(second.floor.shows, second.other.shows)
        machine = replay(other, firsts, second.other.turns)
        self.assertEqual(list(machine.shows_made), second.floor.shows)

    def is_new(self, other, rows, name, point):
        many = len(other.routine_of(name).rows)
        return point.row < many and point.row not in rows[name]


if __name__ == "__main__":
    unittest.main()
