"""[71], [75] to [77]: demands that are open in some weaving, against trying all short weavings of up to three hands."""

import random
import unittest

from helpers import NO_NUMBERS, ODD_VALUES, TEXTS, error_of
from random_houses import busy_house, random_house
from test_judging import LARGE
from test_products import OVER_BOUND, large_house
from woven_oracle import Woven
from handsroom.changing import keeping
from handsroom.errors import TooLarge
from handsroom.houses import House
from handsroom.judging import HeldTable, demand_statuses
from handsroom.machine import Machine
from handsroom.replay import length_of, replay
from handsroom.spreading import Spread
from handsroom.twohands import (
    Opening, find_opening, find_stale_woven, kept_for_all, open_places, open_points, spared_for_all)

LONGEST = 7


def demands_of(house, words=("read", "keep")):
    """The triples (routine, point, place) of the demands of a house."""
    found = []
    for routine in house.routines:
        for at, point in enumerate(Spread(house, routine.name).points):
            if point.step[0] in words:
                found.append((routine.name, at, (routine.name, point.row, point.deed)))
    return found


def is_open_next(machine, hand):
    """True if the demand at which a hand stands is open at its next go."""
    state = machine.hand_at(hand)
    _, name, field = machine.step_at(hand)
    kind, numbers, _ = machine.heap_now.object_rows[state.leads_to(name)]
    at = machine.house.fields_of(kind).index(field)
    return state.sheet_of(name)[at] != numbers[at]


class OpeningCheck:
    """What an Opening must be, for any test."""

    def check_opening(self, house, found):
        self.assertIs(type(found), Opening)
        hand, move = found.turns[-1]
        self.assertEqual((type(found.firsts), type(found.turns), move[0]), (tuple, tuple, "go"))
        machine = replay(house, found.firsts, found.turns[:-1])
        self.assertEqual((len(machine), machine.turns_made), (found.hands, found.turns[:-1]))
        state = machine.hand_at(hand)
        self.assertEqual((state.routine, state.point), (found.routine, found.point))
        self.assertIn(machine.step_at(hand)[0], ("read", "keep"))
        self.assertTrue(is_open_next(machine, hand))
        self.assertEqual(length_of(found.turns[:-1]), found.length)
        machine.turn(hand, move)
        if Spread(house, found.routine).points[found.point].step[0] == "keep":
            self.assertEqual(machine.faults_made[-1], ("stale", len(found.turns) - 1, hand, found.point))
        else:
            self.assertEqual(machine.shows_made[-1][0], hand)


HEAD = "lock a\nkind box a n\nkind bag - n m\nbody hit : +a box.n\nbody spill bag : bag.m\n"
WRITER = "\nroutine w u:box v:bag\ndo write u n\ndone"


def house_of(*rows, others=WRITER, names="x:box y:box b:bag"):
    return House.read(HEAD + "\n".join(["routine r " + names, *rows, "done"]) + others)


class PointsTest(OpeningCheck, unittest.TestCase):
    def places(self, *rows, **more):
        house = house_of(*rows, **more)
        found = open_points(house, "r")
        demands = [row for row in demands_of(house) if row[0] == "r"]
        for _, point, _ in demands:
            opening = find_opening(house, "r", point)
            self.assertEqual(opening is not None, point in found)
            if opening is not None:
                self.check_opening(house, opening)
        self.assertEqual(tuple(place for place in open_places(house) if place[0] == "r"),
                         tuple(place for _, point, place in demands if point in found))
        self.assertIsInstance(found, tuple)
        return found

    def test_one_hand(self):
        self.assertEqual(self.places("do read x n, read x n, keep x n", others=""), (0,))
        self.assertEqual(self.places("do make x, read x n, keep x n", others=""), ())
        # Another hand that runs the same routine writes the number of y.
        self.assertEqual(self.places("do make x, write y n, read x n, keep y n", others=""), (3,))
        self.assertEqual(self.places("do make x, make y, write y n, read x n, keep y n", others=""), ())
        self.assertEqual(self.places("do read x n, write y n, keep x n", others=""), (0, 2))

    def test_another_hand_that_writes(self):
        self.assertEqual(self.places("do read x n, read x n, keep x n"), (0, 1, 2))
        # A lock that the other hand does not take keeps nothing from it.
        self.assertEqual(self.places("with take a", "do read x n, keep x n", "close"), (1, 2))
        taking = WRITER.replace("do write u n", "with take a\ndo write u n\nclose")
        self.assertEqual(self.places("with take a", "do read x n, keep x n", "close", others=taking), (1,))
        self.assertEqual(self.places("do read x n, keep x n", others=taking), (0, 1))
        self.assertEqual(self.places("do read x n", "with take a", "do keep x n", "close", others=taking), (0, 2))
        self.assertEqual(self.places("do make x, keep x n, put x, keep x n"), (3,))

    def test_another_hand_whose_body_changes(self):
        hitting = "\nroutine w\ndo call hit\ndone"
        self.assertEqual(self.places("do read x n, keep x n", others=hitting), (0, 1))
        self.assertEqual(self.places("with take a", "do read x n, keep x n", "close", others=hitting), (1,))
        spilling = "\nroutine w v:bag\ndo call spill v\ndone"
        self.assertEqual(self.places("do read b n, keep b n, read b m, keep b m", others=spilling), (0, 2, 3))

    def test_two_hands_that_run_one_routine(self):
        self.assertEqual(self.places("do read x n, keep x n, write x n", others=""), (0, 1))
        house = house_of("do read x n, keep x n, write x n", others="")
        found = find_opening(house, "r", 1)
        self.assertEqual((found.hands, found.length, length_of(found.turns)), (2, 4, 5))

    def test_a_keeper_that_starts_last(self):
        """The other hand writes only what it made, so the keeper must be led to this when it is shared."""
        house = house_of("do read x n, keep x n", others="\nroutine w u:box\ndo make u, put u, write u n\ndone")
        found = find_opening(house, "r", 1)
        self.check_opening(house, found)
        self.assertEqual((found.hands, found.length, found.turns[-1]), (2, 4, (1, ("go", None, 2))))
        self.assertEqual([move[1] for _, move in found.turns if move[0] == "start"], ["w", "r"])

    def test_points_that_are_never_reached(self):
        self.assertEqual(self.places("do take a as g, take a, read x n, keep x n"), ())
        self.assertEqual(self.places(), ())

    def test_the_order_of_the_places(self):
        text = HEAD + "routine z b:bag\ndo read b n\ndone\nroutine c b:bag\ndo read b m, read b n, read b m\ndone"
        self.assertEqual(open_places(House.read(text)), (("z", 0, 0), ("c", 0, 0), ("c", 0, 1)))

    def test_fewest_hands_come_ahead_of_the_least_length(self):
        house = house_of("do read x n, read y n", "either", "do skip, skip, skip, skip, skip, skip", "do write y n", "or",
                         "close", "do keep x n")
        found = find_opening(house, "r", demands_of(house)[-2 if demands_of(house)[-1][0] == "w" else -1][1])
        self.assertEqual((found.hands, found.length), (1, 10))

    def test_wrong_names_and_points(self):
        house = house_of("do read x n, keep x n, write x n")
        for value in ODD_VALUES + ("x", "box", "hit", 0):
            self.assertEqual(error_of(open_points, house, value), ("NoSuch", value))
            self.assertEqual(error_of(find_opening, house, value, 0), ("NoSuch", value))
            self.assertEqual(error_of(find_opening, house, value, "wrong"), ("NoSuch", value))
        for value in NO_NUMBERS + ODD_VALUES + (2, 3, 4, -1, 10 ** 40):
            self.assertEqual(error_of(find_opening, house, "r", value), ("BadPoint", value))
        self.assertIsNotNone(find_opening(house, "r", 1))


class StaleTest(OpeningCheck, unittest.TestCase):
    def test_none(self):
        for rows in (["do read x n"], ["do read b n, keep b n"], ["do make x, keep x n"],
                     ["do take a as g, take a, keep x n"]):
            self.assertIsNone(find_stale_woven(house_of(*rows)))

    def found(self, text):
        house = House.read(text)
        found = find_stale_woven(house)
        self.check_opening(house, found)
        return found.routine, found.point, found.hands, found.length

    def test_one_hand_comes_first(self):
        two = "routine r x:bag\ndo read x n, keep x n, write x n\ndone"
        one = "\nroutine s x:bag y:bag\ndo skip, skip, skip, skip, skip, skip, skip, keep x m\ndone"
        self.assertEqual(self.found(HEAD + two + one), ("s", 7, 1, 7))
        self.assertEqual(self.found(HEAD + two), ("r", 1, 2, 4))

    def test_the_least_length_among_all_keeps(self):
        rows = "\nroutine {} x:bag\ndo {}read x n, keep x n\ndone"
        text = HEAD + "routine w x:bag\ndo write x n\ndone"
        late, soon = rows.format("late", "skip, "), rows.format("soon", "")
        self.assertEqual(self.found(text + late + soon), ("soon", 1, 2, 2))
        self.assertEqual(self.found(text + soon + late), ("soon", 1, 2, 2))
        one = "\nroutine {} x:bag\ndo {}keep x n\ndone"
        self.assertEqual(self.found(text + one.format("p", "skip, ") + one.format("q", "")), ("q", 0, 1, 0))


class SparedTest(unittest.TestCase):
    def test_spared_for_all(self):
        house = house_of("do read x n, read x n, read b n, read b n, keep b n")
        self.assertEqual(spared_for_all(house), (("r", 0, 3),))
        self.assertEqual(kept_for_all(house).routine_of("r").rows[0].text(),
                         "do read x n, read x n, read b n, keep b n, keep b n")
        self.assertEqual(spared_for_all(house_of("do take a as g, take a, read x n")), (("r", 0, 2),))
        house = house_of("do read x n")
        self.assertEqual((spared_for_all(house), kept_for_all(house)), ((), house))

    def test_the_order_of_the_places(self):
        text = HEAD + "routine z b:bag\ndo make b, read b n\ndone\nroutine c b:bag\ndo read b n, read b n\ndone"
        self.assertEqual(spared_for_all(House.read(text)), (("z", 0, 1), ("c", 0, 1)))


class LargeTest(unittest.TestCase):
    HEAD = "kind box - size\n"
    ROWS = "\n".join(row.replace(" n", " size") for row in LARGE)

    def test_spots(self):
        large = "routine s x:box y:box z:box w:box\n" + self.ROWS + "\ndo keep x size\ndone"
        small = "\nroutine r x:box\ndo keep x size\ndone"
        house = House.read(self.HEAD + large + small)
        for ask in (open_places, find_stale_woven, spared_for_all, kept_for_all):
            self.assertEqual(error_of(ask, house), ("TooLarge", "spots"))
        self.assertEqual(error_of(open_points, house, "s"), ("TooLarge", "spots"))
        self.assertEqual(error_of(find_opening, house, "s", 0), ("BadPoint", 0))
        self.assertEqual(error_of(find_opening, house, "s", demands_of(house)[-2][1]), ("TooLarge", "spots"))

    def test_states(self):
        """A keep that no hand makes open alone, in a product of too many states."""
        text = large_house(*OVER_BOUND).text()
        house = House.read(text.replace("do make x", "do make x, put x").replace(
            "\ndone\nroutine w", "\ndo keep x n, read x n\ndone\nroutine w"))
        at = [row for row in demands_of(house) if row[0] == "r"][0][1]
        for ask, told in [(open_points, ("r",)), (find_opening, ("r", at)), (open_places, ()), (find_stale_woven, ()),
                          (spared_for_all, ()), (kept_for_all, ())]:
            self.assertEqual(error_of(ask, house, *told), ("TooLarge", "states"))


class OracleTest(OpeningCheck, unittest.TestCase):
    def check(self, house, oracles, longest, seen):
        alone, two = oracles
        for name, point, _ in demands_of(house):
            found = find_opening(house, name, point)
            self.assertEqual(found is not None, point in open_points(house, name))
            want = None
            if (name, point) in alone.opened:
                want = (1, alone.opened[name, point])
            elif (name, point) in two.opened:
                want = (2, two.opened[name, point])
            told = None
            if found is not None:
                self.check_opening(house, found)
                self.assertEqual((found.routine, found.point), (name, point))
                told = (found.hands, found.length)
            if want is None and told is not None:
                self.assertTrue(told[0] == 2 and (told[1] > longest or not two.is_whole), (house.text(), name, point))
                seen["long"] = seen.get("long", 0) + 1
                continue
            self.assertEqual(told, want, (house.text(), name, point))
            seen[told and told[0]] = seen.get(told and told[0], 0) + 1

    def test_against_all_short_weavings_of_two_hands(self):
        seen = {}
        houses = [busy_house(seed, rows=7, names=3) for seed in range(110)]
        houses += [random_house(seed, rows=6, names=3, routines=2) for seed in range(40)]
        for house in houses:
            alone, two = Woven(house, 1, 40), Woven(house, 2, LONGEST, 6000)
            self.assertTrue(alone.is_whole)
            # A demand is lone-open just if it is needed or mixed.
            for routine in house.routines:
                try:
                    statuses = demand_statuses(HeldTable(Spread(house, routine.name)))
                except TooLarge:
                    continue
                for point, status in enumerate(statuses):
                    self.assertEqual(status in ("needed", "mixed"), (routine.name, point) in alone.opened)
            try:
                self.check(house, (alone, two), LONGEST, seen)
            except TooLarge:
                seen["large"] = True
        self.assertGreater(min(seen.get(key, 0) for key in (1, 2, None, "long")), 10)

    def test_two_hands_are_enough(self):
        """[76]: what three hands make open, two make open in no greater length."""
        opened = houses = 0
        for seed in range(400):
            house = busy_house(seed + 500, rows=4, names=seed % 2 + 1, routines=2)
            openings = [find_opening(house, name, point) for name, point, _ in demands_of(house)]
            soon = [one for one in openings if one is not None and one.hands == 2 and one.length <= 4]
            # Most houses show little, so few are tried that have no short opening of two hands.
            if not soon and seed % 20 > 0:
                continue
            two, three = Woven(house, 2, 4, 12000), Woven(house, 3, 4, 12000)
            if not three.is_whole:
                continue
            self.assertEqual(two.opened, three.opened)
            houses += 1
            for (name, point), length in three.opened.items():
                found = find_opening(house, name, point)
                self.assertTrue(found.hands == 1 or found.length == length)
                opened += found.hands == 2
        self.assertGreater(min(opened, houses), 20)

    def test_stale_woven(self):
        """[76]: of the fewest hands, and then the least among all keeps."""
        seen = {}
        for seed in range(200):
            house = busy_house(seed + 900, rows=5, names=2)
            found = find_stale_woven(house)
            openings = [find_opening(house, name, point) for name, point, _ in demands_of(house, ("keep",))]
            told = [(one.hands, one.length) for one in openings if one is not None]
            if found is not None:
                self.check_opening(house, found)
                self.assertEqual(Spread(house, found.routine).points[found.point].step[0], "keep")
            self.assertEqual(None if found is None else (found.hands, found.length), min(told) if told else None)
            seen[found and found.hands] = seen.get(found and found.hands, 0) + 1
        self.assertGreater(min(seen[key] for key in (None, 1, 2)), 5)

    def test_spared_for_all(self):
        """[77]: just the reads that are spared for all hands can be kept, and all of them together."""
        spared = needed = 0
        for seed in range(300):
            house = busy_house(seed + 2000, rows=6, names=2)
            reads = demands_of(house, ("read",))
            opened = {name: open_points(house, name) for name in dict((row[0], 0) for row in reads)}
            want = tuple(place for name, point, place in reads if point not in opened[name])
            self.assertEqual(spared_for_all(house), want)
            other = kept_for_all(house)
            self.assertEqual(other, keeping(house, want))
            self.assertEqual(open_places(other), open_places(house))
            self.assertEqual(spared_for_all(other), ())
            for name, point, place in reads:
                if place not in want:
                    kept = find_opening(keeping(house, [place]), name, point)
                    self.check_opening(keeping(house, [place]), kept)
            spared, needed = spared + len(want), needed + len(reads) - len(want)
        self.assertGreater(min(spared, needed), 30)

    def test_weavings_of_the_kept_house(self):
        """[77]: turn by turn the same weaving, with the same shows and stale turns, and no turn is bare that was not."""
        from floor_oracle import Floor, Mover, random_firsts
        rng = random.Random(77)
        replaced = 0
        for seed in range(300):
            house = busy_house(seed + 2000, rows=6, names=2)
            other = kept_for_all(house)
            firsts = random_firsts(rng, house)
            floor, places = Floor(house, firsts), spared_for_all(house)
            mover = Mover(rng, floor)
            for _ in range(60):
                hand, move = mover.turn(0)
                if floor.refusal(hand, move) is None:
                    floor.make(hand, move)
            machine, twin = Machine(house, firsts), Machine(other, firsts)
            machine.attempt(floor.turns)
            twin.attempt(floor.turns)
            self.assertEqual(machine.shows_made, twin.shows_made)
            stale = [[fault for fault in one.faults_made if fault[0] == "stale"] for one in (machine, twin)]
            self.assertEqual(*stale)
            self.assertTrue({fault for fault in twin.faults_made} <= {fault for fault in machine.faults_made})
            replaced += len(places)
        self.assertGreater(replaced, 30)

    def test_full_houses(self):
        for text in TEXTS[:3]:
            house = House.read(text)
            try:
                found = open_places(house)
            except TooLarge:
                continue
            for name, point, place in demands_of(house):
                opening = find_opening(house, name, point)
                self.assertEqual(opening is not None, place in found)
                if opening is not None:
                    self.check_opening(house, opening)


if __name__ == "__main__":
    unittest.main()
