"""[42], [44]: what is known along a lone path, and stale runs."""

import random
import unittest

import test_joining
from helpers import ODD_VALUES, TEXTS, error_of
from random_houses import random_house, random_path
from run_oracle import kinds_of
from sheet_oracle import Sheets
from handsroom.houses import House
from handsroom.lonetable import START, LoneTable, locks_of, next_nodes
from handsroom.loneruns import Run, play
from handsroom.marks import first_marked, marked_after
from handsroom.runs import marked_records, stale_run
from handsroom.spreading import Spread

HEAD = "\n".join(["lock a", "kind box a f g", "kind bag - f", "body fill box : box.f", "body wide : +a box.f bag.f",
                  "routine r x:box y:box u:bag"])


def spread(*rows):
    return Spread(House.read("\n".join([HEAD, *rows, "done"])), "r")


def straight(one):
    path = [START]
    while next_nodes(one, path[-1]):
        path.append(next_nodes(one, path[-1])[0])
    return path


class RecordsTest(unittest.TestCase):
    def test_along_a_path(self):
        one = spread("do read x f, copy y x, write u f", "with take a", "do call wide", "close", "do call wide, fetch x")
        path = straight(one)
        for told in (path, tuple(path)):
            known = [record.known for record in marked_records(one, told)]
            xf, yf, uf = ("x", "f"), ("y", "f"), ("u", "f")
            self.assertEqual(known[:9], [(), (xf,), (xf, yf), (xf, yf, uf), (xf, yf, uf), (xf, yf), (xf, yf), (), ()])
        self.assertTrue(hasattr(marked_records(one, path), "send"))

    def test_the_locks_of_the_node_before_count(self):
        one = spread("do read x f, take a, call wide", "do call wide")
        known = [record.known for record in marked_records(one, straight(one))]
        self.assertEqual(known, [(), (("x", "f"),), (("x", "f"),), (("x", "f"),), (("x", "f"),), (), ()][:len(known)])

    def test_step_by_step(self):
        rng = random.Random(33)
        for seed in range(100):
            one = Spread(random_house(seed, rows=8), "r")
            path = random_path(rng, one, 10)
            found = list(marked_records(one, path))
            self.assertEqual(found[0].key(), first_marked(one).key())
            for at, (point, guards) in enumerate(path[:-1]):
                step = one.points[point].step
                self.assertEqual(found[at + 1].key(), marked_after(one, locks_of(guards), found[at], step).key())


class StaleRunTest(unittest.TestCase):
    def check(self, one, path, name, field):
        run = stale_run(one, path, name, field)
        if list(marked_records(one, path))[-1].knows(name, field):
            self.assertIsNone(run)
            return None
        self.assertIsInstance(run, Run)
        played = play(one, path, run)
        at = list(kinds_of(one)).index(name)
        place = one.house.fields_of(kinds_of(one)[name]).index(field)
        self.assertNotEqual(played.sheets[-1][at][place], played.numbers[-1][at][place])
        test_joining.JoinedTest().check_numbers(one, path, run, played)
        return played.sheets[-1][at][place]

    def test_nothing_on_the_sheet(self):
        one = spread("do fetch x, copy y x")
        for path in (straight(one)[:1], straight(one)[:2], straight(one)):
            for name, field in [("x", "f"), ("y", "g"), ("u", "f")]:
                self.assertIsNone(self.check(one, path, name, field))

    def test_another_name_writes(self):
        one = spread("do read x f, write y f, skip")
        self.assertIsNotNone(self.check(one, straight(one), "x", "f"))
        self.assertIsNone(stale_run(one, straight(one), "y", "f"))
        self.assertIsNone(stale_run(one, straight(one)[:2], "x", "f"))

    def test_a_name_that_has_the_sheet_from_another_one(self):
        one = spread("do read x f, write y f, copy y x, fetch x, make x, skip")
        self.assertIsNotNone(self.check(one, straight(one), "y", "f"))

    def test_a_body_changes_the_number(self):
        one = spread("do make x, write x f, call fill x, skip")
        self.assertIsNotNone(self.check(one, straight(one), "x", "f"))
        one = spread("do read x f, call fill y, skip")
        self.assertIsNotNone(self.check(one, straight(one), "x", "f"))
        one = spread("do read x f, call wide, read u f, skip, call wide, copy y x")
        for name, field in [("x", "f"), ("u", "f"), ("y", "f"), ("y", "g")]:
            self.check(one, straight(one), name, field)

    def test_a_name_that_leads_elsewhere_later(self):
        one = spread("do read x f, write y f, fetch y, make y, copy y y, fetch y x")
        self.assertIsNotNone(self.check(one, straight(one), "x", "f"))

    def test_errors(self):
        one = spread("do read x f")
        path = straight(one)
        for wrong, position in [([], 0), ([(1, ())], 0), ([START, START], 1), (path + [START], len(path))]:
            self.assertEqual(error_of(stale_run, one, wrong, "none", "none"), ("BadPath", position))
        for value in ODD_VALUES + ("w", "box", 0, "fill"):
            self.assertEqual(error_of(stale_run, one, path, value, "none"), ("NoSuch", value))
            self.assertEqual(error_of(stale_run, one, path, "x", value), ("NoSuch", value))
        self.assertEqual(error_of(stale_run, one, path, "u", "g"), ("NoSuch", "g"))
        self.assertEqual(error_of(stale_run, one, path, "g", "f"), ("NoSuch", "g"))

    def test_known_is_what_the_sheets_have_in_all_runs(self):
        rng = random.Random(34)
        entries = {}
        for seed in range(700):
            one = Spread(random_house(seed + 3000, rows=8), "r")
            path = random_path(rng, one, 12)
            while sum(one.points[node[0]].step[0] == "fetch" for node in path[:-1]) > 2:
                path.pop()
            sheets = Sheets(one, path)
            record = list(marked_records(one, path))[-1]
            for name, kind in kinds_of(one).items():
                for field in one.house.fields_of(kind):
                    found = sheets.entries(name, field)
                    self.assertEqual(record.knows(name, field), found == {"e"})
                    self.check(one, path, name, field)
                    key = "".join(sorted(found))
                    entries[key] = entries.get(key, 0) + 1
        self.assertEqual(sorted(entries), ["de", "e", "n"])
        self.assertGreater(min(entries.values()), 10)

    def test_along_the_tables_of_full_houses(self):
        for text in TEXTS:
            house = House.read(text)
            for routine in house.routines:
                one = Spread(house, routine.name)
                table = LoneTable(one)
                for node in table.nodes[::9]:
                    for name, kind in kinds_of(one).items():
                        for field in house.fields_of(kind):
                            self.check(one, table.path_to(node), name, field)


if __name__ == "__main__":
    unittest.main()
