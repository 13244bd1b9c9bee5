"""[86]: takes whose guards are of no use, against all lone runs."""

import unittest

from helpers import LARGE_HOUSE, TEXTS, error_of
from lone_oracle import Wanderer
from random_houses import TAIL_WORDS, busy_house, careless_house, lock_house, random_house
from handsroom.bareness import is_settled
from handsroom.changing import leaving_out
from handsroom.errors import TooLarge
from handsroom.houses import House
from handsroom.idle import idle_takes
from handsroom.nesting import house_nests
from handsroom.rings import find_ring
from handsroom.spreading import Spread
from handsroom.tables import RoomTable
from handsroom.touches import touched
from handsroom.twohands import open_places
from handsroom.verdicts import bare_places

HEAD = "lock a\nlock b\nkind box a f\nkind bag - f\nbody lend : +a =a\nbody hit box : box.f\nbody mild :\n"


def house_of(*rows):
    return House.read(HEAD + "\n".join(("routine r x:box y:box u:bag",) + rows + ("done",)))


def idle_again(house):
    """The idle takes from all lone runs, None if these are too many."""
    found = []
    for routine in house.routines:
        spread = Spread(house, routine.name)
        world = Wanderer(spread, 4000)
        if not world.is_whole:
            return None
        used = set()
        for state in world.states:
            step = world.step(state)
            busy = step[0] in ("take", "call", "put")
            if step[0] in ("read", "write", "keep") and not world.is_own(state, step[1]):
                busy = True
            if busy:
                used |= {tag for tag, _ in state[0][1]}
        given = routine.rows[-1].guard if routine.rows and routine.rows[-1].word == "give" else None
        for point in spread.points:
            if point.step[0] == "take" and point.step[2] not in used and point.step[2] != given:
                found.append((routine.name, point.row, point.deed))
    return tuple(found)


class IdleTest(unittest.TestCase):
    def idle(self, *rows):
        house = house_of(*rows)
        found = idle_takes(house)
        self.assertEqual(found, idle_again(house))
        self.assertIsInstance(found, tuple)
        return [place[1:] for place in found]

    def test_steps_that_need_no_lock(self):
        for deeds in ("skip", "make x", "copy x y", "fetch x y", "make x, read x f, write x f, keep x f"):
            self.assertEqual(self.idle("with take a", "do " + deeds, "close"), [(0, 0)], deeds)
        self.assertEqual(self.idle("do take a"), [(0, 0)])

    def test_steps_that_may_need_one(self):
        for deed in ("take b", "call lend", "call hit x", "call mild", "put x", "read x f", "write x f", "keep x f", "read u f"):
            for rows in (("with take a", "do make y, " + deed, "close"), ("do take a, " + deed,), ("do take a as g", "do " + deed)):
                self.assertNotIn((0, 0), self.idle(*rows), deed)
            self.assertIn((0, 0), self.idle("do take a", "do make y, " + deed))
        self.assertEqual(self.idle("with take a", "either", "do make x", "close", "do read x f", "close"), [])

    def test_several_takes(self):
        self.assertEqual(self.idle("do take a, take b"), [(0, 1)])
        self.assertEqual(self.idle("do take b, skip", "do read u f", "with take a, skip", "close"), [(0, 0), (2, 0)])

    def test_a_give_row(self):
        self.assertEqual(self.idle("do take a as g", "give g"), [])
        self.assertEqual(self.idle("do take a as g", "do take b as h", "give g"), [(1, 0)])

    def test_drop_rows(self):
        self.assertEqual(self.idle("do take a as g", "drop g", "do read x f"), [(0, 0)])
        self.assertEqual(self.idle("do take a as g", "do read u f", "drop g"), [])

    def test_takes_that_are_never_reached(self):
        self.assertEqual(self.idle("with take a", "do take a, read x f", "close"), [(1, 0)])

    def test_calls_are_no_takes(self):
        self.assertEqual(self.idle("do call lend"), [])

    def test_each_routine_in_order(self):
        text = HEAD + "routine z\ndo take a\ndone\nroutine c\ndo take b\ndo skip, take a\ndone"
        self.assertEqual(idle_takes(House.read(text)), (("z", 0, 0), ("c", 0, 0), ("c", 1, 1)))
        self.assertEqual(idle_takes(House.read("kind k - n\nroutine r\ndone")), ())

    def test_a_table_that_is_too_large(self):
        self.assertEqual(error_of(idle_takes, House.read(LARGE_HOUSE)), ("TooLarge", "spots"))

    def test_against_all_lone_runs(self):
        counts = [0, 0]
        houses = [House.read(text) for text in TEXTS] + [random_house(seed, rows=7, routines=2) for seed in range(100)]
        houses += [lock_house(seed) for seed in range(60)] + [busy_house(seed, rows=6, words=TAIL_WORDS) for seed in range(100)]
        for house in houses:
            want = idle_again(house)
            if want is not None:
                try:
                    self.assertEqual(idle_takes(house), want)
                    counts[want != ()] += 1
                except TooLarge:
                    continue
        self.assertGreater(min(counts), 60)


class LeavingOutTest(unittest.TestCase):
    def test_a_house_without_its_idle_takes(self):
        words = ("take", "take", "skip", "make", "read", "write", "keep", "fetch")
        checked = 0
        for seed in range(500):
            house = busy_house(seed, rows=6, words=words) if seed % 3 else careless_house(seed)
            idle = idle_takes(house)
            if not idle or not is_settled(house) or not house_nests(house) or find_ring(house) is not None:
                continue
            for some in (idle, idle[:1], idle[-1:]):
                other = leaving_out(house, some)
                self.assertTrue(is_settled(other) and house_nests(other) and find_ring(other) is None)
                self.assertEqual((bare_places(other), open_places(other)), (bare_places(house), open_places(house)))
            checked += 1
        self.assertGreater(checked, 60)

    def test_a_take_that_is_needed(self):
        """What is touched under its guard becomes BARE without the take."""
        checked = 0
        for seed in range(150):
            house = careless_house(seed) if seed % 2 else busy_house(seed, rows=6)
            for routine in house.routines:
                spread = Spread(house, routine.name)
                for spot in RoomTable(spread):
                    point = spread.points[spot.node[0]]
                    for name in touched(spread, point.step):
                        lock = house.guard_of(routine.kind_of(name))
                        for tag, held in spot.node[1]:
                            maker = [one for one in spread.makers if one.tag == tag][0]
                            place = (routine.name, maker.row, maker.deed)
                            if held != lock or name in spot.record.own or error_of(leaving_out, house, [place]):
                                continue
                            self.assertIn((routine.name, point.row, point.deed), bare_places(leaving_out(house, [place])))
                            checked += 1
        self.assertGreater(checked, 100)


if __name__ == "__main__":
    unittest.main()
