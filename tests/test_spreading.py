"""[23], [24]: spread forms."""

import random
import unittest

from helpers import FULL, NO_NUMBERS, ODD_VALUES, TEXTS, THING, error_of
from random_houses import random_house
from walk_oracle import Walk
from handsroom.guards import makers
from handsroom.houses import House
from handsroom.routines import next_rows
from handsroom.spreading import Spread

HEAD = "lock a\nlock b\nkind k - n\nbody lend k : +a +b =a =b\nbody plain :\n"


def spread(*rows):
    return Spread(House.read(HEAD + "\n".join(["routine r x:k", *rows, "done"])), "r")


def told(one):
    return [(point.step, point.nexts, point.row, point.deed) for point in one.points]


class SpreadTest(unittest.TestCase):
    def test_points(self):
        one = spread("with take a as g, call lend x", "do take b, skip, call plain", "drop g", "close")
        self.assertEqual(told(one), [
            (("take", "a", "g"), (1,), 0, 0), (("call", "lend", ("x",), "0.1"), (2,), 0, 1),
            (("take", "b", "1.0"), (3,), 1, 0), (("skip",), (4,), 1, 1), (("call", "plain", (), ""), (5,), 1, 2),
            (("drop", "1.0"), (6,), 1, -1), (("drop", "g"), (7,), 2, -1), (("drop", "0.1"), (8,), 3, -1),
            (("drop", "g"), (9,), 4, -1), (("stop", ""), (), 4, -1)])
        self.assertIsInstance(one.points, tuple)

    def test_forks_and_rows_without_points(self):
        one = spread("block", "either", "or", "close", "repeat", "close", "close", "either", "do make x", "close")
        self.assertEqual(told(one), [
            (("skip",), (1,), 1, -1), (("skip",), (1, 2), 4, -1), (("skip",), (3, 4), 7, -1),
            (("make", "x"), (4,), 8, 0), (("stop", ""), (), 10, -1)])
        self.assertEqual([one.first_point(row) for row in range(11)], [0, 0, 1, 1, 1, 1, 2, 2, 3, 4, 4])
        self.assertEqual([one.points_of(row) for row in range(11)], [
            (), (0,), (), (), (1,), (), (), (2,), (3,), (), (4,)])

    def test_the_same_next_point_stands_once(self):
        self.assertEqual(told(spread("either", "close")), [(("skip",), (1,), 0, -1), (("stop", ""), (), 2, -1)])
        self.assertEqual(spread("repeat", "close").points[0].nexts, (0, 1))

    def test_the_end(self):
        one = spread("do take a as g, take b as h", "give g")
        self.assertEqual(told(one)[2:], [(("drop", "h"), (3,), 2, -1), (("stop", "g"), (), 2, -1)])
        self.assertEqual(told(spread()), [(("stop", ""), (), 0, -1)])
        self.assertEqual((spread().stop_point, one.stop_point, len(one), len(spread())), (0, 3, 4, 1))

    def test_fields(self):
        house = House.read(FULL)
        one = Spread(house, "r4")
        self.assertIs(one.house, house)
        self.assertEqual((one.name, len(one)), ("r4", 2))
        for value in ODD_VALUES + ("b1", 0, THING):
            self.assertEqual(error_of(Spread, house, value), ("NoSuch", value))

    def test_rows(self):
        one = spread("do skip", "block", "close")
        for value in NO_NUMBERS + (-1, 4, 10 ** 40):
            self.assertEqual(error_of(one.points_of, value), ("NoRow", value))
            self.assertEqual(error_of(one.first_point, value), ("NoRow", value))
        self.assertEqual((one.points_of(3), one.first_point(3)), ((1,), 1))

    def test_tags(self):
        one = spread("do take a as g, take b", "either", "drop g", "or", "with call lend x", "close", "close", "give g")
        self.assertEqual([one.maker_point(tag) for tag in ("g", "0.1", "4.0")], [0, 1, 5])
        self.assertEqual([one.drop_points(tag) for tag in ("g", "0.1", "4.0")], [(4, 7), (2,), (6,)])
        for value in ODD_VALUES + ("h", "0.0", "1.0", 0, "x", THING):
            self.assertEqual(error_of(one.maker_point, value), ("NoTag", value))
            self.assertEqual(error_of(one.drop_points, value), ("NoTag", value))

    def test_general_form(self):
        houses = [House.read(text) for text in TEXTS] + [random_house(seed, rows=9) for seed in range(150)]
        for house in houses:
            for routine in house.routines:
                self.check(house, routine)

    def check(self, house, routine):
        one = Spread(house, routine.name)
        last = len(one) - 1
        self.assertEqual([point.row for point in one.points], sorted(point.row for point in one.points))
        for number, point in enumerate(one.points):
            fork = point.row < len(routine.rows) and routine.rows[point.row].word in ("either", "repeat")
            self.assertTrue(len(point.nexts) == (number != last) or fork and len(point.nexts) == 2)
            self.assertEqual(point.step[0] == "stop", number == last)
            self.assertTrue(all(0 <= following <= last for following in point.nexts))
        nexts = next_rows(routine)
        for row in range(len(routine.rows)):
            if not one.points_of(row):
                self.assertEqual(one.first_point(row), one.first_point(nexts[row][0]))
            else:
                self.assertEqual(one.first_point(row), one.points_of(row)[0])
        for maker in makers(house, routine.name):
            point = one.points[one.maker_point(maker.tag)]
            self.assertEqual((point.row, point.deed, point.step[-1]), (maker.row, maker.deed, maker.tag))
            steps = [one.points[number].step for number in one.drop_points(maker.tag)]
            self.assertTrue(steps and all(step in (("drop", maker.tag), ("stop", maker.tag)) for step in steps))

    def test_ways_against_the_walk(self):
        rng = random.Random(9)
        houses = [House.read(text) for text in TEXTS] + [random_house(seed, rows=9) for seed in range(250)]
        for house in houses:
            for routine in house.routines:
                told_choices = [rng.randrange(2) for _ in range(20)] + [1] * 60
                walk = Walk(house, routine, told_choices)
                used = told_choices[:len(told_choices) - len(walk.choices)]
                self.follow(Spread(house, routine.name), routine, used, walk.steps)

    def follow(self, one, routine, choices, steps):
        nexts = next_rows(routine)
        at = one.first_point(0)
        found = []
        while True:
            point = one.points[at]
            found.append((point.step, point.row, point.deed))
            if not point.nexts:
                break
            at = point.nexts[0]
            if point.row < len(routine.rows) and routine.rows[point.row].word in ("either", "repeat"):
                at = one.first_point(nexts[point.row][choices.pop(0)])
                self.assertIn(at, point.nexts)
        self.assertEqual((found, choices), (steps, []))


if __name__ == "__main__":
    unittest.main()
