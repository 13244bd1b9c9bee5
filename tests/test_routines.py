"""[13] to [16]: routines, blocks, parts, scopes, next rows, row paths."""

import random
import unittest

from helpers import NO_NUMBERS, ODD_VALUES, TEXTS, THING, error_of
from random_houses import random_house
from text_oracle import first_fault
from walk_oracle import Walk, tree_of
from handsroom.houses import House
from handsroom.routines import (
    Routine, blocks, choices_of, each_deed, next_rows, part_ends, row_path, scopes)
from handsroom.rows import Row


def rows_of(text):
    return [Row.read(line) for line in text.split("; ")] if text else []


def routine(text, *names):
    return Routine("r", list(names), rows_of(text))


def fault(text, *names):
    """The line and the rule with which a routine of these rows is refused."""
    found = error_of(Routine, "r", names, rows_of(text))
    return found and found[1:]


class RoutineTest(unittest.TestCase):
    def test_fields_and_text(self):
        names, rows = [("x", "box"), ("y", "bag")], rows_of("do take a as g; block; close; drop g")
        made = Routine("r", names, rows)
        names.append(("z", "box"))
        rows.append(Row("block"))
        self.assertEqual((made.name, made.names), ("r", (("x", "box"), ("y", "bag"))))
        self.assertEqual(made.rows, tuple(rows_of("do take a as g; block; close; drop g")))
        self.assertEqual(made.text(), "routine r x:box y:bag\ndo take a as g\nblock\nclose\ndrop g\ndone")
        self.assertEqual(Routine("r", (), ()).text(), "routine r\ndone")

    def test_equality(self):
        made = routine("do skip", ("x", "k"))
        self.assertTrue(made == routine("do skip", ("x", "k")))
        for other in [routine("do skip"), routine("do skip; do skip", ("x", "k")), routine("do skip", ("x", "m")),
                      Routine("s", [("x", "k")], rows_of("do skip")), None, "r", made.text()]:
            self.assertFalse(made == other)

    def test_kind_of(self):
        made = routine("", ("x", "box"), ("y", "x"))
        self.assertEqual([made.kind_of("x"), made.kind_of("y")], ["box", "x"])
        for value in ("box", "z", None, 0, ["x"], THING):
            self.assertEqual(error_of(made.kind_of, value), ("NoSuch", value))

    def test_form(self):
        for value in ODD_VALUES + ("take", 3):
            self.assertEqual(error_of(Routine, value, [], []), ("BadLine", 1, "form"))
            for pair in [value, (value, "k"), ("x", value), ("x", "k", value)]:
                self.assertEqual(error_of(Routine, "r", [("y", "k"), pair], []), ("BadLine", 1, "form"))
            self.assertEqual(error_of(Routine, "r", [], [Row("block"), value]), ("BadLine", 3, "form"))
        for value in [["x", "k"], ("x",), "x:k", ("x:k",)]:
            self.assertEqual(error_of(Routine, "r", [value], []), ("BadLine", 1, "form"))
        for value in ["block", ("do", ("skip",)), ["block"]]:
            self.assertEqual(error_of(Routine, "r", (), (value,)), ("BadLine", 2, "form"))

    def test_routine_line(self):
        five = [(name, "k") for name in "xyzuv"]
        self.assertEqual(error_of(Routine, "r", five, []), ("BadLine", 1, "many"))
        self.assertEqual(len(Routine("r", five[:4], []).names), 4)
        self.assertEqual(error_of(Routine, "r", [("x", "k"), ("x", "m")], []), ("BadLine", 1, "twice"))
        self.assertEqual(error_of(Routine, "r", five[:4] + five[:1], [None]), ("BadLine", 1, "many"))
        self.assertEqual(error_of(Routine, "r", five[:4] + [("x", None)], []), ("BadLine", 1, "form"))

    def test_place(self):
        self.assertEqual(fault("do take a as g; give g; do skip"), (4, "place"))
        self.assertEqual(fault("do take a as g; give g; give g"), (4, "place"))
        self.assertEqual(fault("do take a as g; block; give g; close"), (4, "place"))
        self.assertEqual(fault("with take a as g; give g; close"), (3, "place"))
        self.assertIsNone(fault("with take a as g; close; give g"))

    def test_many(self):
        self.assertIsNone(fault("; ".join(["block; close"] * 12)))
        self.assertEqual(fault("; ".join(["block; close"] * 12 + ["block"])), (26, "many"))
        skips = "do " + ", ".join(["skip"] * 23)
        self.assertIsNone(fault(skips + "; with skip; close"))
        self.assertEqual(fault(skips + "; with skip, skip; close"), (3, "many"))
        takes = "do take a as g" + ", skip" * 22
        self.assertIsNone(fault(takes + "; drop g; give g"))
        self.assertEqual(fault(takes + "; drop g; drop g"), (4, "many"))
        self.assertEqual(fault(takes + ", skip; drop g"), (3, "many"))
        for word in ("block", "either", "repeat", "with skip"):
            self.assertIsNone(fault("; ".join(["block"] * 3 + [word] + ["close"] * 4)))
            self.assertEqual(fault("; ".join(["block"] * 4 + [word])), (6, "many"))
        self.assertIsNone(fault("; ".join(["block"] * 3 + ["either", "or", "close", "block"] + ["close"] * 4)))

    def test_pair(self):
        for text, line in [("close", 2), ("or", 2), ("block; or", 3), ("repeat; or", 3), ("with skip; or", 3),
                           ("either; or; or", 4), ("either; close; or", 4), ("either; block; or", 4),
                           ("block; close; close", 4), ("block", 3), ("either; or", 4), ("repeat; do skip", 4),
                           ("either; or; block; or", 5)]:
            self.assertEqual(fault(text), (line, "pair"), text)
        self.assertIsNone(fault("either; or; close"))
        self.assertIsNone(fault("either; block; close; or; either; or; close; close"))

    def test_twice(self):
        self.assertEqual(fault("do take a as x", ("x", "k")), (2, "twice"))
        self.assertEqual(fault("do take a as g, take b as g"), (2, "twice"))
        self.assertEqual(fault("do take a as g; do call b as g"), (3, "twice"))
        self.assertEqual(fault("block; do take a as g; close; with take b as g; close"), (5, "twice"))
        self.assertIsNone(fault("do take a as g, take b as h", ("x", "k")))

    def test_scope(self):
        for text, line in [("drop g", 2), ("give g", 2), ("do take a; drop g", 3), ("drop g; do take a as g", 2),
                           ("block; do take a as g; close; drop g", 5), ("either; do take a as g; or; drop g; close", 5),
                           ("either; or; do take a as g; close; drop g", 6),
                           ("repeat; with take a as g; close; close; give g", 6)]:
            self.assertEqual(fault(text), (line, "scope"), text)
        for text in ["with take a as g; drop g; close", "with take a as g; close; drop g; drop g",
                     "do take a as g; either; drop g; or; repeat; drop g; close; close; give g"]:
            self.assertIsNone(fault(text), text)
        self.assertEqual(fault("drop x", ("x", "k")), (2, "scope"))

    def test_the_first_rule_decides(self):
        full = "; ".join(["do take a as g"] + ["block; close"] * 11 + ["give g"])
        self.assertIsNone(fault(full))
        self.assertEqual(fault(full + "; close"), (26, "place"))
        self.assertEqual(fault("; ".join(["block; close"] * 12 + ["close"])), (26, "many"))
        self.assertEqual(fault("; ".join(["block; close"] * 12 + ["drop g"])), (26, "many"))
        self.assertEqual(fault("block; give g"), (3, "place"))
        skips = "do " + ", ".join(["skip"] * 24)
        self.assertEqual(fault(skips + "; do take a as x", ("x", "k")), (3, "many"))
        self.assertEqual(fault(skips + "; drop g"), (3, "many"))
        self.assertEqual(fault("close; drop g"), (2, "pair"))

    def test_halls_and_bodies_play_no_part(self):
        text = "do read q f, call nobody x y as g, take nolock, copy x w, fetch w x"
        self.assertIsNone(fault(text, ("x", "nokind"), ("w", "other")))

    def test_random_rows_against_the_oracle(self):
        rng = random.Random(4)
        lines = ["do take a as g", "do take a as h, skip", "do skip", "with take a as i", "block", "either", "or",
                 "repeat", "close", "close", "close", "drop g", "drop h", "drop i", "give g", "do take a as g, take a",
                 "do " + ", ".join(["skip"] * 9)]
        seen = {}
        for _ in range(4000):
            chosen = [rng.choice(lines) for _ in range(rng.randint(0, 9))]
            if rng.random() < 0.2:
                chosen = [line for line in chosen if line != "give g"] * 3
            text = "\n".join(["lock a", "kind k - n", "routine r"] + chosen + ["done"])
            want = first_fault(text)
            found = error_of(Routine, "r", (), [Row.read(line) for line in chosen])
            self.assertEqual(found and found[1:], want and (want[0] - 2, want[1]), text)
            seen[want and want[1]] = True
        self.assertEqual(sorted(map(str, seen)), ["None", "many", "pair", "place", "scope", "twice"])


class StructureTest(unittest.TestCase):
    TEXT = "with take a as g; either; do take b as h; or; repeat; do take c as i; close; close; block; close; close; drop g"

    def test_blocks_and_parts(self):
        made = routine(self.TEXT)
        self.assertEqual(blocks(made), ((0, None, 10), (1, 3, 7), (4, None, 6), (8, None, 9)))
        self.assertEqual(part_ends(made), (12, 10, 3, 10, 7, 6, 7, 10, 10, 10, 12, 12))
        self.assertEqual((blocks(routine("")), part_ends(routine("")), next_rows(routine(""))), ((), (), ()))

    def test_next_rows(self):
        self.assertEqual(next_rows(routine(self.TEXT)), (
            (1,), (2, 4), (3,), (8,), (5, 7), (6,), (4,), (8,), (9,), (10,), (11,), (12,)))
        self.assertEqual(next_rows(routine("either; close; repeat; close; either; or; close")), (
            (1, 2), (2,), (3, 4), (2,), (5, 6), (7,), (7,)))

    def test_scopes(self):
        made = routine(self.TEXT)
        self.assertEqual(scopes(made), (
            (), ("g",), ("g",), ("g", "h"), ("g",), ("g",), ("g", "i"), ("g",), ("g",), ("g",), ("g",), ("g",), ("g",)))
        self.assertEqual(scopes(routine("do take a as z, take b as a1; do take c as m")), (
            (), ("z", "a1"), ("z", "a1", "m")))
        self.assertEqual(scopes(routine("")), ((),))

    def test_each_deed(self):
        made = routine("do skip, make x; block; with take a; close; close", ("x", "k"))
        self.assertEqual(list(each_deed(made)), [(0, 0, ("skip",)), (0, 1, ("make", "x")), (2, 0, ("take", "a"))])
        self.assertEqual(list(each_deed(routine("block; close"))), [])

    def test_random_routines(self):
        for seed in range(150):
            one = random_house(seed, rows=10).routines[0]
            rows, end = one.rows, len(one.rows)
            triples, ends, parts = [], [end] * end, []
            self.collect(tree_of(rows)[0], end, triples, ends, parts)
            self.assertEqual(blocks(one), tuple(sorted(triples)))
            self.assertEqual(part_ends(one), tuple(ends))
            found = [[] for _ in range(end + 1)]
            for number, _, deed in each_deed(one):
                if deed[-2:-1] == ("as",):
                    for at in range(number + 1, ends[number] + 1):
                        found[at].append(deed[-1])
            self.assertEqual(scopes(one), tuple(map(tuple, found)))

    def collect(self, nodes, end, triples, ends, parts):
        for opening, first, middle, second, closing in nodes:
            ends[opening] = end
            if closing is not None:
                ends[closing] = end
                triples.append((opening, middle, closing))
                self.collect(first, closing if middle is None else middle, triples, ends, parts)
                if middle is not None:
                    ends[middle] = end
                    self.collect(second, closing, triples, ends, parts)


class PathTest(unittest.TestCase):
    def setUp(self):
        self.made = routine("either; do skip; or; repeat; do skip; close; close")

    def test_row_paths(self):
        self.assertEqual(row_path(self.made, [0]), (0, 1, 2, 7))
        self.assertEqual(row_path(self.made, (1, 1)), (0, 3, 6, 7))
        self.assertEqual(row_path(self.made, [1, 0, 0, 1]), (0, 3, 4, 5, 3, 4, 5, 3, 6, 7))
        self.assertEqual(row_path(routine(""), []), (0,))
        self.assertEqual(row_path(routine("do skip"), ()), (0, 1))

    def test_wrong_choices(self):
        for value in NO_NUMBERS + (2, -1, 10 ** 30):
            self.assertEqual(error_of(row_path, self.made, [value, value]), ("BadPath", 0), value)
            self.assertEqual(error_of(row_path, self.made, [1, 0, value]), ("BadPath", 2), value)
            self.assertEqual(error_of(row_path, self.made, [0, value]), ("BadPath", 1), value)
            self.assertEqual(error_of(row_path, routine("do skip"), [value]), ("BadPath", 0), value)
        self.assertEqual(error_of(row_path, self.made, []), ("BadPath", 0))
        self.assertEqual(error_of(row_path, self.made, [1]), ("BadPath", 1))
        self.assertEqual(error_of(row_path, self.made, [1, 0]), ("BadPath", 2))
        self.assertEqual(error_of(row_path, self.made, [0, 0]), ("BadPath", 1))
        self.assertEqual(error_of(row_path, self.made, [1, 1, 0]), ("BadPath", 2))
        self.assertEqual(error_of(row_path, routine(""), [0]), ("BadPath", 0))

    def test_wrong_paths(self):
        path = (0, 3, 4, 5, 3, 6, 7)
        self.assertEqual(choices_of(self.made, path), (1, 0, 1))
        for at in range(len(path)):
            self.assertEqual(error_of(choices_of, self.made, path[:at]), ("BadPath", at))
            for value in NO_NUMBERS + (2, -1, 8, 10 ** 30):
                self.assertEqual(error_of(choices_of, self.made, path[:at] + (value,)), ("BadPath", at), value)
        for value in NO_NUMBERS + (7, 8, 0):
            self.assertEqual(error_of(choices_of, self.made, list(path) + [value]), ("BadPath", 7))
        self.assertEqual(error_of(choices_of, self.made, (0, 2)), ("BadPath", 1))
        self.assertEqual(choices_of(routine(""), [0]), ())
        self.assertEqual(error_of(choices_of, routine(""), []), ("BadPath", 0))
        self.assertEqual(error_of(choices_of, routine(""), [0, 0]), ("BadPath", 1))

    def test_random_paths(self):
        rng = random.Random(6)
        houses = [House.read(text) for text in TEXTS] + [random_house(seed, rows=9) for seed in range(150)]
        for house in houses:
            for one in house.routines:
                told = [rng.randrange(2) for _ in range(20)] + [1] * 60
                walk = Walk(house, one, told)
                used = told[:len(told) - len(walk.choices)]
                self.assertEqual(row_path(one, used), tuple(walk.path))
                self.assertEqual(choices_of(one, walk.path), tuple(used))
                nexts = next_rows(one)
                for number, following in zip(walk.path, walk.path[1:]):
                    self.assertIn(following, nexts[number])

    def test_every_row_is_reached(self):
        for seed in range(80):
            one = random_house(seed, rows=9).routines[0]
            nexts = next_rows(one) + ((),)
            for start in range(len(nexts)):
                reached = [start]
                for number in reached:
                    reached += [row for row in nexts[number] if row not in reached]
                self.assertIn(len(one.rows), reached)
                if start == 0:
                    self.assertEqual(sorted(reached), list(range(len(nexts))))


if __name__ == "__main__":
    unittest.main()
