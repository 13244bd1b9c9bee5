"""[81], [85]: carried weavings, turn by turn on a machine of each house."""

import random
import unittest

from floor_oracle import Floor, Mover, random_firsts
from helpers import ODD_VALUES, THING, error_of
from random_houses import busy_house, careless_house, lock_house, random_house
from handsroom.carrying import carried, carried_early
from handsroom.changing import ending, naming
from handsroom.errors import BadLine, BadPlace, Refused
from handsroom.houses import House
from handsroom.lots import unnamed_places
from handsroom.machine import Machine
from handsroom.replay import replay
from handsroom.routines import scopes
from handsroom.spreading import Spread

TEXT = "\n".join([
    "lock a", "lock b", "kind box a f", "body lend : +a +b =a =b", "routine r x:box", "do take a, read x f",
    "either", "do call lend", "do skip", "or", "close", "with take b", "do keep x f", "close", "done"])
HOUSE = House.read(TEXT)
FIRSTS = (("box", (5,)), ("box", (6,)))
START = (0, ("start", "r", (0,)))


def go(*points):
    return tuple((0, ("go", None, point)) for point in points)


class Second:
    """A second reading of [81]: the turns of a weaving made on a floor of the other house, with all ways tried."""

    def __init__(self, house, other, firsts, left, put):
        self.floor, self.other = Floor(house, firsts), Floor(other, firsts)
        self.left, self.put = left, put
        self.places = {}
        for name in self.floor.spreads:
            for floor, gone in ((self.floor, left), (self.other, put)):
                kept = [at for at in range(len(floor.spreads[name])) if not gone(name, floor.spreads[name].points[at])]
                self.places[(floor is self.floor, name)] = kept
        # How many turns the other house has behind each turn of the weaving.
        self.moved = []

    def gone(self, floor, hand, gone):
        one = floor.hands[hand]
        return one["point"] is not None and gone(one["routine"], floor.spreads[one["routine"]].points[one["point"]])

    def place(self, floor, hand):
        """Which of the points that both houses have is the point of a hand, over drops that are gone."""
        one = floor.hands[hand]
        point = one["point"]
        spread = floor.spreads[one["routine"]]
        gone = self.left if floor is self.floor else self.put
        while point is not None and gone(one["routine"], spread.points[point]):
            point = spread.points[point].nexts[0]
        return None if point is None else self.places[(floor is self.floor, one["routine"])].index(point)

    def make(self, hand, move):
        """Makes a turn of the weaving, and what is to be made for it in the other house."""
        if move[0] not in ("go", "leave"):
            self.floor.make(hand, move)
            self.do(hand, move)
        elif self.gone(self.floor, hand, self.left):
            self.floor.make(hand, move)
        else:
            self.floor.make(hand, move)
            want = self.place(self.floor, hand)
            nexts = self.other.nexts(hand) or (None,)
            for following in nexts:
                trial = self.other.copy()
                trial.make(hand, move[:2] + (following,))
                if self.place(trial, hand) == want:
                    self.do(hand, move[:2] + (following,))
                    while self.gone(self.other, hand, self.put):
                        self.do(hand, ("go", None, self.other.nexts(hand)[0]))
                    break
            else:
                raise AssertionError("no way")
        self.moved.append(len(self.other.turns))

    def do(self, hand, move):
        assert self.other.refusal(hand, move) is None, (hand, move)
        self.other.make(hand, move)


def random_weaving(rng, house, firsts, second, many):
    """Makes random turns on both floors of a Second."""
    mover = Mover(rng, second.floor)
    for _ in range(many):
        hand, move = mover.turn(0)
        if second.floor.refusal(hand, move) is None:
            second.make(hand, move)
    return tuple(second.floor.turns)


class CarryCheck:
    def check(self, second, weaving, found, more_bare):
        """What a carried weaving keeps: shows, STALE and BARE turns, and only locks that were held before."""
        self.assertEqual(found, tuple(second.other.turns))
        one, two = second.floor, second.other
        self.assertEqual(one.shows, two.shows)
        for hand in range(len(one.hands)):
            self.assertLessEqual(set(two.held(hand)), set(one.held(hand)))
        # The last turn made for each turn is not the one itself if drops follow.
        first_of = [0] + second.moved[:-1]
        told = {word: [(first_of[turn], hand) for kind, turn, hand, _ in one.faults if kind == word]
                for word in ("stale", "bare")}
        now = {word: [(turn, hand) for kind, turn, hand, _ in two.faults if kind == word] for word in ("stale", "bare")}
        self.assertEqual(told["stale"], now["stale"])
        self.assertLessEqual(set(told["bare"]), set(now["bare"]))
        if not more_bare:
            self.assertEqual(told, now)
        return len(now["bare"]) - len(told["bare"]), len(now["stale"])


class CarriedTest(CarryCheck, unittest.TestCase):
    def test_a_loose_guard(self):
        """In the named house the guard of the first take ends at the end."""
        lot = [("r", 0, 0)]
        spread = Spread(naming(HOUSE, lot), "r")
        self.assertEqual([point.step[0] for point in spread.points],
                         ["take", "read", "skip", "call", "drop", "skip", "take", "keep", "drop", "drop", "stop"])
        weaving = (START,) + go(1, 2, 6, 7, 8, 9, 10) + ((0, ("go", None, None)),)
        found = carried(HOUSE, lot, FIRSTS, weaving)
        # The drop comes behind the read now; there is none at the end.
        self.assertEqual(found, (START,) + go(1, 2, 3, 7, 8, 9, 10) + ((0, ("go", None, None)),))
        machine = replay(HOUSE, FIRSTS, found)
        self.assertEqual(machine.shows_made, ((0, 5), (0, 5)))

    def test_a_weaving_that_ends_ahead_of_a_drop(self):
        lot = [("r", 0, 0)]
        for many in range(1, 9):
            weaving = ((START,) + go(1, 2, 6, 7, 8, 9, 10))[:many]
            found = carried(HOUSE, lot, FIRSTS, weaving)
            self.assertEqual(found, ((START,) + go(1, 2, 3, 7, 8, 9, 10))[:many + (2 < many < 8)])

    def test_a_guard_that_is_handed_back(self):
        lot = [("r", 2, 0)]
        inside = ((0, ("enter",)), (0, ("want", "b")), (0, ("take",)))
        weaving = (START,) + go(1, 2, 3, 4) + inside + ((0, ("leave", "b", 5)),) + go(6, 7)
        self.assertEqual([point.step for point in Spread(naming(HOUSE, lot), "r").points][4:7],
                         [("call", "lend", (), "n0"), ("skip",), ("drop", "n0")])
        found = carried(HOUSE, lot, FIRSTS, weaving)
        self.assertEqual(found, (START,) + go(1, 2, 3, 4) + inside + ((0, ("leave", "b", 5)),) + go(6, 7))
        self.assertEqual([point.step for point in Spread(HOUSE, "r").points][4:7],
                         [("call", "lend", (), "2.0"), ("drop", "2.0"), ("skip",)])
        # Up to the leave: the drop follows it directly.
        self.assertEqual(carried(HOUSE, lot, FIRSTS, weaving[:9])[-2:], ((0, ("leave", "b", 5)),) + go(6))

    def test_the_empty_lot(self):
        weaving = [(0, ("start", "r", [0])), (0, ("go", None, 1))]
        for wrap in (list, tuple):
            found = carried(HOUSE, wrap([]), wrap(FIRSTS), wrap(weaving))
            self.assertEqual(found, (START,) + go(1))
            self.assertIsInstance(found[0][1][2], tuple)
        self.assertEqual(carried(HOUSE, [], FIRSTS, []), ())

    def test_a_lot_in_any_order_and_twice(self):
        weaving = (START,) + go(1, 2, 6, 7, 8)
        lot = [("r", 0, 0), ("r", 6, 0)]
        want = carried(HOUSE, lot, FIRSTS, weaving)
        self.assertEqual(carried(HOUSE, lot[::-1] + lot[:1], FIRSTS, weaving), want)

    def test_wrong_places_come_ahead_of_a_wrong_weaving(self):
        for value in list(ODD_VALUES) + [THING, ("r", 0, 1), ("r", 1, 0), ("x", 0, 0), ["r", 0, 0]]:
            self.assertEqual(error_of(carried, HOUSE, [("r", 0, 0), value], (), [(9, ("go", None, 7))]), ("BadPlace", value))
        with self.assertRaises(BadPlace):
            carried(HOUSE, [7], FIRSTS, [])

    def test_a_weaving_that_the_named_house_refuses(self):
        lot = [("r", 0, 0)]
        self.assertEqual(error_of(carried, HOUSE, lot, [("bag", (1,))], []), ("NoSuch", "bag"))
        self.assertEqual(error_of(carried, HOUSE, lot, [("box", (1, 2))], []), ("WrongFirst", 0))
        self.assertEqual(error_of(carried, HOUSE, lot, [], []), ("NoFirst", "box"))
        # A weaving of the given house, which goes over the drop there, is none of the named one.
        self.assertEqual(error_of(carried, HOUSE, lot, FIRSTS, (START,) + go(1, 2, 3, 7)), ("Refused", 4))
        with self.assertRaises(Refused):
            carried(HOUSE, [], FIRSTS, go(1))

    def test_nothing_that_is_passed_is_modified(self):
        lot, firsts, weaving = [("r", 0, 0)], [("box", [5])], [(0, ("start", "r", [0])), (0, ("go", None, 1))]
        found = carried(HOUSE, lot, firsts, weaving)
        self.assertEqual((lot, firsts, weaving), (
            [("r", 0, 0)], [("box", [5])], [(0, ("start", "r", [0])), (0, ("go", None, 1))]))
        weaving[0][1][2].append(7)
        self.assertEqual(found[0][1][2], (0,))

    def test_random_weavings(self):
        rng = random.Random(81)
        counts = [0, 0, 0, 0]
        houses = [HOUSE] * 30 + [careless_house(seed) for seed in range(120)]
        houses += [lock_house(seed, rows=5) for seed in range(60)] + [busy_house(seed, rows=6) for seed in range(60)]
        houses += [random_house(seed, rows=7, routines=2) for seed in range(60)]
        for house in houses:
            places = unnamed_places(house)
            lot = [place for place in places if rng.random() < 0.7]
            rng.shuffle(lot)
            named, firsts = naming(house, lot), random_firsts(rng, house)
            tags = {}
            for name, row, index in lot:
                for which, one in (("left", named), ("put", house)):
                    maker = [maker for maker in Spread(one, name).makers if (maker.row, maker.deed) == (row, index)][0]
                    tags.setdefault((which, name), []).append(("drop", maker.tag))
            second = Second(named, house, firsts, lambda name, point: point.step in tags.get(("left", name), ()),
                            lambda name, point: point.step in tags.get(("put", name), ()))
            weaving = random_weaving(rng, named, firsts, second, 50)
            found = carried(house, rng.choice((list, tuple))(lot), firsts, weaving)
            more, stale = self.check(second, weaving, found, True)
            self.assertEqual(replay(house, firsts, found).turns_made, found)
            for many in rng.sample(range(len(weaving) + 1), 3) if len(weaving) > 3 else ():
                shorter = carried(house, lot, firsts, weaving[:many])
                self.assertEqual(shorter, found[:([0] + second.moved)[many]])
            for at, hits in enumerate((found != weaving, more > 0, stale > 0, len(second.floor.hands) > 1)):
                counts[at] += hits
        self.assertGreater(min(counts), 8, counts)
        self.assertGreater(counts[0], 80)


class CarriedEarlyTest(CarryCheck, unittest.TestCase):
    TEXT = "\n".join(["lock a", "kind box a f", "routine r x:box", "do take a as g, read x f", "either", "close", "do make x",
                      "do write x f", "done", "routine s y:box", "do take a as g", "do keep y f", "done"])
    HOUSE = House.read(TEXT)

    def test_a_drop_ahead_of_a_row(self):
        weaving = (START,) + go(1, 2, 3, 4) + ((0, ("go", 7, 5)),) + go(6)
        found = carried_early(self.HOUSE, "r", 3, "g", FIRSTS, weaving)
        self.assertEqual(found, (START,) + go(1, 2, 3, 4, 5) + ((0, ("go", 7, 6)),) + go(7))
        machine = replay(ending(self.HOUSE, "r", 3, "g"), FIRSTS, found)
        self.assertEqual((machine.holder("a"), machine.shows_made), (None, ((0, 5),)))

    def test_at_the_end(self):
        weaving = (START,) + go(1, 2, 3, 4) + ((0, ("go", 7, 5)),) + go(6) + ((0, ("go", None, None)),)
        found = carried_early(self.HOUSE, "r", 5, "g", FIRSTS, weaving)
        self.assertEqual(found[:6] + found[7:8], weaving[:6] + go(7))
        self.assertEqual(found[6:], go(6, 7) + ((0, ("go", None, None)),))

    def test_a_row_that_is_not_free(self):
        """The read is not carried over the drop, so it becomes BARE."""
        house = House.read("lock a\nkind box a f\nroutine r x:box\ndo take a as g\ndo read x f\ndone")
        weaving = (START,) + go(1, 2)
        found = carried_early(house, "r", 1, "g", FIRSTS, weaving)
        self.assertEqual(found, (START,) + go(1, 2, 3))
        self.assertEqual(replay(ending(house, "r", 1, "g"), FIRSTS, found).faults_made, (("bare", 3, 0, 2),))

    def test_the_first_next_point_that_leads_there(self):
        """Both next points of the fork lead to one point, the first one over the new drop."""
        house = House.read("lock a\nkind box a f\nroutine r x:box\ndo take a as g\neither\nclose\ndo skip\ndone")
        found = carried_early(house, "r", 2, "g", FIRSTS, (START,) + go(1, 2))
        self.assertEqual(found, (START,) + go(1, 2, 3))
        self.assertEqual(Spread(ending(house, "r", 2, "g"), "r").points[1].nexts, (2, 3))
        # Behind the close row of a repeat row comes the repeat row, not the drop ahead of it.
        house = House.read("lock a\nkind box a f\nroutine r x:box\ndo take a as g\nrepeat\ndo skip\nclose\ndone")
        found = carried_early(house, "r", 1, "g", FIRSTS, (START,) + go(1, 2, 1, 2))
        self.assertEqual(found, (START,) + go(1, 2, 3, 2, 3))

    def test_errors_in_order(self):
        wrong = [(9, ("go", None, 7))]
        for value in list(ODD_VALUES) + [THING, "x"]:
            self.assertEqual(error_of(carried_early, self.HOUSE, value, -1, "G", (), wrong), ("NoSuch", value))
        for value in (-1, 6, True, None, "1", 2.0):
            self.assertEqual(error_of(carried_early, self.HOUSE, "r", value, "G", (), wrong), ("BadPlace", ("r", value)))
        self.assertEqual(error_of(carried_early, self.HOUSE, "r", 3, "G", (), wrong), ("BadPart", "form"))
        self.assertEqual(error_of(carried_early, self.HOUSE, "r", 3, "h", (), wrong), ("BadLine", 7, "scope"))
        self.assertEqual(error_of(carried_early, self.HOUSE, "r", 0, "g", (), wrong), ("BadLine", 4, "scope"))
        self.assertEqual(error_of(carried_early, self.HOUSE, "r", 3, "g", (), wrong), ("NoFirst", "box"))
        self.assertEqual(error_of(carried_early, self.HOUSE, "r", 3, "g", FIRSTS, wrong), ("Refused", 0))
        self.assertEqual(error_of(carried_early, self.HOUSE, "r", 3, "g", FIRSTS, [START] + wrong), ("Refused", 1))
        with self.assertRaises(BadLine):
            carried_early(self.HOUSE, "r", 3, "h", FIRSTS, [])

    def test_random_weavings(self):
        rng = random.Random(85)
        counts = [0, 0, 0]
        houses = [self.HOUSE] * 20 + [lock_house(seed, rows=6) for seed in range(60)]
        houses += [busy_house(seed, rows=7) for seed in range(120)] + [random_house(seed, rows=8, routines=2) for seed in range(120)]
        for house in houses:
            chosen = [(routine.name, row, guard) for routine in house.routines
                      for row, guards in enumerate(scopes(routine)) for guard in guards]
            rng.shuffle(chosen)
            for name, row, guard in chosen[:3]:
                try:
                    other = ending(house, name, row, guard)
                except BadLine:
                    continue
                firsts = random_firsts(rng, house)
                second = Second(house, other, firsts, lambda *told: False,
                                lambda told, point: told == name and point.row == row and point.step == ("drop", guard))
                weaving = random_weaving(rng, house, firsts, second, 40)
                found = carried_early(house, name, row, guard, firsts, weaving)
                more, stale = self.check(second, weaving, found, True)
                self.assertEqual(replay(other, firsts, found).turns_made, found)
                for at, hits in enumerate((found != weaving, more > 0, stale > 0)):
                    counts[at] += hits
        self.assertGreater(counts[0], 100)
        self.assertGreater(counts[1] + counts[2], 20)


if __name__ == "__main__":
    unittest.main()
