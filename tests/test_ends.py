"""[29], [30]: lives of guards and endings of lone paths, against all short lone paths."""

import random
import unittest

from helpers import ODD_VALUES, TEXTS, error_of
from random_houses import GUARD_WORDS, random_house, random_path
from run_oracle import levels
from handsroom.ends import endings, life
from handsroom.guards import makers
from handsroom.houses import House
from handsroom.lonetable import START, LoneTable, next_nodes
from handsroom.spreading import Spread

HEAD = "lock a\nlock b\nkind k - n\nbody lend : +a +b =a =b\nroutine r\n"


def spread(*rows):
    return Spread(House.read(HEAD + "\n".join(rows + ("done",))), "r")


def walked(one, *choices):
    """The lone path that takes the next nodes of these indexes, then the first ones, until there is none."""
    path = [START]
    choices = list(choices)
    while next_nodes(one, path[-1]):
        following = next_nodes(one, path[-1])
        path.append(following[choices.pop(0) if choices and len(following) > 1 else 0])
    return path


class LifeTest(unittest.TestCase):
    def test_lives(self):
        one = LoneTable(spread("do take a as g, take b", "with skip", "drop g", "close", "do skip"))
        self.assertEqual([life(one, tag) for tag in ("g", "0.1")], [(1, 2, 3, 4), (2,)])
        one = LoneTable(spread("do take a as g", "either", "drop g", "close", "do skip"))
        self.assertEqual(life(one, "g"), (1, 2, 3, 4))
        # Behind the second take the first guard would be in the way, so nobody comes there.
        one = LoneTable(spread("do take a as g", "do take a as h", "do skip"))
        self.assertEqual([life(one, tag) for tag in "gh"], [(1,), ()])
        one = LoneTable(spread("do call lend as g", "give g"))
        self.assertEqual(life(one, "g"), (1,))

    def test_wrong_tags(self):
        one = LoneTable(spread("do take a as g, call lend"))
        for value in ODD_VALUES + ("h", "", "0.0", "0.2", "1.0", 0):
            self.assertEqual(error_of(life, one, value), ("NoTag", value))
        self.assertEqual(life(one, "0.1"), (2,))

    def test_against_all_lone_paths(self):
        houses = [House.read(text) for text in TEXTS] + [
            random_house(seed, rows=9, words=GUARD_WORDS) for seed in range(300)]
        empty = long = 0
        for house in houses:
            for routine in house.routines:
                one = Spread(house, routine.name)
                nodes = list(levels(one))
                table = LoneTable(one)
                for maker in makers(house, routine.name):
                    found = life(table, maker.tag)
                    self.assertIsInstance(found, tuple)
                    want = {point for point, guards in nodes if maker.tag in [tag for tag, _ in guards]}
                    self.assertEqual(found, tuple(sorted(want)))
                    empty, long = empty + (not found), long + (len(found) > 3)
        self.assertGreater(min(empty, long), 20)


class EndingsTest(unittest.TestCase):
    def test_endings(self):
        one = spread("do take a as g, take b", "drop g", "do take a")
        path = walked(one)
        self.assertEqual(path[-1], (7, ()))
        for wrap in (list, tuple):
            self.assertEqual(endings(one, wrap(path)), (("g", "a", 0, 3), ("0.1", "b", 1, 2), ("2.0", "a", 4, 5)))
            self.assertEqual(endings(one, wrap(path[:1])), ())
            self.assertEqual(endings(one, wrap(path[:2])), (("g", "a", 0, None),))
            # At its last node the path is at the drop, which counts.
            self.assertEqual(endings(one, wrap(path[:3])), (("g", "a", 0, None), ("0.1", "b", 1, 2)))
            self.assertEqual(endings(one, wrap(path[:4])), (("g", "a", 0, 3), ("0.1", "b", 1, 2)))

    def test_a_guard_that_is_made_again(self):
        one = spread("repeat", "do call lend", "close")
        first = [START, (1, ())]
        path = first + [(2, (("1.0", "b"),)), (0, ()), (1, ()), (2, (("1.0", "a"),)), (0, ()), (3, ())]
        self.assertEqual(endings(one, path), (("1.0", "b", 1, 2), ("1.0", "a", 4, 5)))

    def test_a_drop_of_a_guard_that_is_gone(self):
        one = spread("do take a as g", "drop g", "drop g", "do skip")
        self.assertEqual(endings(one, walked(one)), (("g", "a", 0, 1),))

    def test_the_stop_ends_what_is_handed_back(self):
        one = spread("do take a as g", "do skip", "give g")
        path = walked(one)
        self.assertEqual((endings(one, path), len(path)), ((("g", "a", 0, 2),), 3))
        self.assertEqual(endings(one, path[:2]), (("g", "a", 0, None),))

    def test_wrong_paths(self):
        one = spread("do take a as g, take b", "drop g")
        path = walked(one)
        self.assertEqual(error_of(endings, one, []), ("BadPath", 0))
        self.assertEqual(error_of(endings, one, path[1:]), ("BadPath", 0))
        for at in range(len(path)):
            for value in ODD_VALUES + ((9, ()), path[0] if at != 0 else path[1]):
                self.assertEqual(error_of(endings, one, path[:at] + [value] + path[at + 1:]), ("BadPath", at))
        self.assertEqual(error_of(endings, one, path + [path[-1]]), ("BadPath", len(path)))

    def test_along_random_paths(self):
        rng = random.Random(30)
        houses = [House.read(text) for text in TEXTS] * 5 + [
            random_house(seed, rows=9, words=GUARD_WORDS) for seed in range(300)]
        made = unended = 0
        for house in houses:
            for routine in house.routines:
                one = Spread(house, routine.name)
                path = random_path(rng, one, rng.randint(0, 40))
                found = endings(one, path)
                self.assertIsInstance(found, tuple)
                self.check(one, path, found)
                made, unended = made + len(found), unended + len([row for row in found if row[3] is None])
        self.assertGreater(min(made, unended), 100)

    def check(self, one, path, found):
        """Each guard is there just at the nodes that its ending tells, and the nodes tell no other guard."""
        there = {}
        for tag, lock, first, last in found:
            self.assertIn(one.points[path[first][0]].step[0], ("take", "call"))
            for at in range(first + 1, (len(path) if last is None else last + 1)):
                there.setdefault(at, []).append((tag, lock))
            if last is not None:
                self.assertIn(one.points[path[last][0]].step, (("drop", tag), ("stop", tag)))
        self.assertEqual([first for _, _, first, _ in found], sorted(first for _, _, first, _ in found))
        for at, (_, guards) in enumerate(path):
            self.assertEqual(tuple(there.get(at, [])), guards)
        if path[-1][0] == one.stop_point:
            self.assertNotIn(None, [last for _, _, _, last in found])


if __name__ == "__main__":
    unittest.main()
