"""[78]: with which locks hands change numbers, against all lone runs and against random weavings of several hands."""

import random
import unittest

from floor_oracle import Floor, Mover, random_firsts
from helpers import LARGE_HOUSE, ODD_VALUES, TEXTS, error_of
from lone_oracle import Wanderer
from random_houses import busy_house, random_house
from handsroom.errors import NoSuch, TooLarge
from handsroom.houses import House
from handsroom.spreading import Spread
from handsroom.writers import is_gated, writer_sets

HEAD = "\n".join([
    "lock a", "lock b", "lock c", "kind box a f g", "kind bag - f", "body hit : +a box.f bag.f",
    "body pass box : +a +b box.f", "body plain box : box.f", "routine r x:box y:box u:bag", ""])


def house_of(*rows):
    return House.read(HEAD + "\n".join(rows + ("done",)))


def sets_again(house, kind, field):
    """The writers' sets of a sort from all lone runs, as sets; None if these are too many."""
    found = set()
    lock = {row[0]: row[1] for row in house.hall.descriptions}[kind]
    for routine in house.routines:
        world = Wanderer(Spread(house, routine.name))
        if not world.is_whole:
            return None
        for state in world.states:
            step, held = world.step(state), frozenset(world.held(state))
            if step[0] == "write" and (world.kinds[step[1]], step[2]) == (kind, field) and not world.is_own(state, step[1]):
                found.add(held)
            if step[0] == "call":
                marks = house.signature_of(step[1]).marks
                if ("writes", kind, field) in marks:
                    shared = [name for name in step[2] if world.kinds[name] == kind and not world.is_own(state, name)]
                    if shared or lock is None:
                        found.add(held)
                    if lock is not None and ("takes", lock) in marks and lock not in held:
                        found.add(held | {lock})
    return found


class SetsTest(unittest.TestCase):
    def sets(self, *rows, sort=("box", "f")):
        found = writer_sets(house_of(*rows), *sort)
        self.assertIsInstance(found, tuple)
        return found

    def test_writes(self):
        self.assertEqual(self.sets("do write x f"), ((),))
        self.assertEqual(self.sets("do write x f", sort=("box", "g")), ())
        self.assertEqual(self.sets("do write u f"), ())
        self.assertEqual(self.sets("do write u f", sort=("bag", "f")), ((),))
        self.assertEqual(self.sets("with take c", "with take a", "do write x f", "close", "do write y f", "close"),
                         (("a", "c"), ("c",)))
        # What is own is written by no other hand's leave.
        self.assertEqual(self.sets("do make x, write x f"), ())
        self.assertEqual(self.sets("do make x, put x, write x f"), ((),))
        self.assertEqual(self.sets("either", "do make x", "close", "with take b", "do write x f", "close"), (("b",),))

    def test_reads_write_nothing(self):
        self.assertEqual(self.sets("do read x f, keep x f, make x, fetch y, copy x y"), ())

    def test_calls(self):
        self.assertEqual(self.sets("do call hit"), (("a",),))
        self.assertEqual(self.sets("do call hit", sort=("bag", "f")), ((),))
        self.assertEqual(self.sets("do call hit", sort=("box", "g")), ())
        # The body cannot take a lock that the hand holds.
        self.assertEqual(self.sets("with take a", "do call hit", "close"), ())
        self.assertEqual(self.sets("with take a", "do call hit", "close", sort=("bag", "f")), (("a",),))
        self.assertEqual(self.sets("with take c", "do call hit", "close"), (("a", "c"),))
        self.assertEqual(self.sets("do call plain x"), ((),))
        self.assertEqual(self.sets("do make x, call plain x"), ())
        self.assertEqual(self.sets("do call pass x"), ((), ("a",)))
        self.assertEqual(self.sets("do make x, call pass x"), (("a",),))
        self.assertEqual(self.sets("with take a", "do call pass x", "close"), (("a",),))
        self.assertEqual(self.sets("with take a", "do make x, call pass x", "close"), ())

    def test_the_order_of_the_sets(self):
        found = self.sets("do write x f", "with take c", "do write x f", "close", "with take b", "do write x f", "with take c",
                          "do write x f", "with take a", "do write x f", "close", "close", "close")
        self.assertEqual(found, ((), ("a", "b", "c"), ("b",), ("b", "c"), ("c",)))

    def test_all_routines_count(self):
        text = HEAD + "do write x f\ndone\nroutine s z:box\nwith take c\ndo write z f\nclose\ndone"
        self.assertEqual(writer_sets(House.read(text), "box", "f"), ((), ("c",)))

    def test_points_that_are_never_reached(self):
        self.assertEqual(self.sets("do take a as g", "do take a, write x f"), ())

    def test_gates(self):
        house = house_of("with take a, take b", "do write x f", "close", "with take b, take c", "do write x f", "close")
        for held, want in (((), False), (("a",), False), (("b",), True), (("a", "c"), True), (("c", "b", "a"), True),
                           (("x",), False)):
            for wrap in (list, tuple):
                self.assertIs(is_gated(house, "box", "f", wrap(held)), want)
        # A sort that nobody writes is gated by no locks at all; a set without locks is gated by none.
        self.assertIs(is_gated(house, "box", "g", []), True)
        self.assertIs(is_gated(house_of("do write u f"), "bag", "f", ["a", "b", "c"]), False)

    def test_wrong_kinds_and_fields(self):
        house = house_of("do write x f")
        for value in ODD_VALUES + ("f", "r", "x"):
            for ask in (lambda kind, field: writer_sets(house, kind, field),
                        lambda kind, field: is_gated(house, kind, field, [])):
                self.assertEqual(error_of(ask, value, "f"), ("NoSuch", value))
                self.assertEqual(error_of(ask, value, value), ("NoSuch", value))
                if value != "f":
                    self.assertEqual(error_of(ask, "box", value), ("NoSuch", value))
        with self.assertRaises(NoSuch):
            writer_sets(house, "bag", "g")

    def test_tables_that_are_too_large(self):
        large = House.read(LARGE_HOUSE)
        for ask in (writer_sets, lambda *told: is_gated(*told, [])):
            self.assertEqual(error_of(ask, large, "x", "x"), ("NoSuch", "x"))
            self.assertEqual(error_of(ask, large, "k", "x"), ("NoSuch", "x"))
            self.assertEqual(error_of(ask, large, "k", "n"), ("TooLarge", "spots"))


class WeavingsTest(unittest.TestCase):
    def test_against_all_lone_runs(self):
        counts = {}
        houses = [House.read(text) for text in TEXTS[:3]] + [busy_house(seed, rows=6) for seed in range(100)]
        houses += [random_house(seed, rows=6, routines=2) for seed in range(60)]
        for house in houses:
            for kind, field in house.sorts:
                want = sets_again(house, kind, field)
                if want is None:
                    continue
                found = writer_sets(house, kind, field)
                self.assertEqual((set(map(frozenset, found)), len(found)), (want, len(want)))
                places = [[house.locks.index(lock) for lock in held] for held in found]
                self.assertEqual(places, sorted(sorted(row) for row in places))
                counts[min(len(found), 2)] = counts.get(min(len(found), 2), 0) + 1
        self.assertGreater(min(counts.values()), 15)

    def test_what_hands_hold_when_they_change_numbers(self):
        rng, changes = random.Random(78), 0
        for seed in range(160):
            house = busy_house(seed, rows=6) if seed % 2 else random_house(seed, rows=7, routines=2)
            try:
                known = {sort: writer_sets(house, *sort) for sort in house.sorts}
            except TooLarge:
                continue
            floor = Floor(house, random_firsts(rng, house))
            mover = Mover(rng, floor)
            for _ in range(60):
                hand, move = mover.turn(0)
                if floor.refusal(hand, move) is not None:
                    continue
                changed = None
                if move[0] == "change":
                    changed = move[1], move[2]
                elif move[0] == "go" and floor.step(hand)[0] == "write":
                    changed = floor.hands[hand]["leads"][floor.step(hand)[1]], floor.step(hand)[2]
                if changed is not None and floor.objects[changed[0]]["owner"] is None:
                    sets = known[(floor.objects[changed[0]]["kind"], changed[1])]
                    self.assertTrue(any(set(one) <= set(floor.held(hand)) for one in sets), (seed, hand, move))
                    changes += 1
                floor.make(hand, move)
        self.assertGreater(changes, 250)


if __name__ == "__main__":
    unittest.main()
