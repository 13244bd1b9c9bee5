"""[38]: clashes and joined runs."""

import random
import unittest

from helpers import ODD_VALUES, SETTLED, WORDS, error_of
from random_houses import random_house, random_path
from run_oracle import endings, grouping_of, groupings, kinds_of
from handsroom.houses import House
from handsroom.joining import first_clash, joined_run
from handsroom.lonetable import START, LoneTable
from handsroom.loneruns import Run, play
from handsroom.records import records, relation
from handsroom.spreading import Spread
from handsroom.touches import bare_names

HEAD = "\n".join(["lock a", "lock b", "kind box a f g", "kind bag - n", "kind cup b n",
                  "body fill box : +a box.f bag.n", "body wide : +a +b box.f box.g bag.n cup.n",
                  "body lend box* : +a +b box.g =a =b", "routine r x:box y:box z:box u:bag"])


def spread(*rows):
    return Spread(House.read("\n".join([HEAD, *rows, "done"])), "r")


def to_the_end(one, choose=0):
    path = [START]
    from handsroom.lonetable import next_nodes
    while next_nodes(one, path[-1]):
        path.append(next_nodes(one, path[-1])[min(choose, len(next_nodes(one, path[-1])) - 1)])
    return path


def leaders(names, blocks, groups):
    """For each name the set of names that are tied to it."""
    tied = {name: {name} for name in names}
    for _ in names:
        for group in list(blocks) + list(groups):
            union = set().union(*[tied[name] for name in group])
            for name in union:
                tied[name] = union | tied[name]
    return tied


class ClashTest(unittest.TestCase):
    def test_first_clash(self):
        one = spread("do make y, copy z y, fetch x")
        path = to_the_end(one)
        self.assertIsNone(first_clash(one, path[:1], ("x", "y", "z")))
        self.assertIsNone(first_clash(one, path))
        self.assertIsNone(first_clash(one, path, ("y", "z"), [], ("x",)))
        self.assertEqual(first_clash(one, path, ("z", "x")), ("x", "y"))
        self.assertEqual(first_clash(one, path[:2], ["z", "x"], ["y", "z"]), ("x", "y"))
        self.assertEqual(first_clash(one, path[:2], ["z", "y"]), ("y", "z"))
        self.assertEqual(first_clash(one, path, ["u", "z"]), ("y", "u"))
        self.assertEqual(first_clash(one, path[:1], ["u", "z"], ["x", "z"]), ("x", "u"))

    def test_errors(self):
        one = spread("do skip")
        for ask in (first_clash, joined_run):
            self.assertEqual(error_of(ask, one, [], ["none"]), ("BadPath", 0))
            self.assertEqual(error_of(ask, one, [START, START], ["none"]), ("BadPath", 1))
            for value in ODD_VALUES + ("w", "box", 0):
                self.assertEqual(error_of(ask, one, [START], ["x"], ("y", value, "none")), ("NoSuch", value))
            self.assertEqual(error_of(ask, one, [START], ["x", "u", "none"]), ("NoSuch", "none"))


class JoinedTest(unittest.TestCase):
    def check(self, one, path, groups=()):
        """What [38] asks of a joined run."""
        run = joined_run(one, path, *groups)
        self.assertEqual(run is None, first_clash(one, path, *groups) is not None)
        if run is None:
            return None
        self.assertIsInstance(run, Run)
        played = play(one, path, run)
        names = list(kinds_of(one))
        told = list(records(one, path))
        tied = leaders(names, told[-1].blocks, groups)
        for i, x in enumerate(names):
            for j, y in enumerate(names):
                self.assertEqual(played.leads[-1][i] == played.leads[-1][j], y in tied[x])
        self.check_numbers(one, path, run, played)
        for at, record in enumerate(told):
            self.check_record(one, played, at, record)
            bare = bare_names(one, path[at], record) != ()
            self.assertEqual(played.faults[at] == "bare", bare)
        return played

    def check_record(self, one, played, at, record):
        leads = dict(zip(kinds_of(one), played.leads[at]))
        for x in leads:
            self.assertEqual(leads[x] in played.own[at], x in record.own)
            for y in leads:
                told = relation(one, record, x, y)
                self.assertIn(told, {True: ("same", "maybe"), False: ("apart", "maybe")}[leads[x] == leads[y]])

    def check_numbers(self, one, path, run, played):
        numbers = [number for _, row in run.objects for number in row]
        names, house = list(kinds_of(one)), one.house
        for at, answer in enumerate(run.answers):
            step = one.points[path[at][0]].step
            numbers += [answer] if step[0] == "write" else []
            if step[0] != "call":
                continue
            changes = [move for move in answer if move[0] == "change"]
            numbers += [move[3] for move in changes]
            marks = house.signature_of(step[1]).marks
            held = [lock for _, lock in path[at][1]]
            leads = dict(zip(names, played.leads[at]))
            want = set()
            for name, number in leads.items():
                kind = kinds_of(one)[name]
                lock, shared = house.guard_of(kind), number not in played.own[at]
                inside = lock is None or ("takes", lock) in marks and lock not in held
                if number in [leads[passed] for passed in step[2]] or shared and inside:
                    want |= {(number, mark[2]) for mark in marks if mark[:2] == ("writes", kind)}
            self.assertEqual(sorted((move[1], move[2]) for move in changes), sorted(want))
        self.assertTrue(all(number > 0 for number in numbers))
        self.assertEqual(len(set(numbers)), len(numbers))

    def test_spread_runs(self):
        one = spread("do read x f, copy y x, write y g, fetch z x, read u n")
        played = self.check(one, to_the_end(one))
        self.assertEqual(len(set(played.leads[-1])), 3)
        self.assertEqual(len({kind for kind, _ in played.contents}), 3)

    def test_a_made_object_is_fetched(self):
        one = spread("do make x, put x, fetch y, fetch z y")
        path = to_the_end(one)
        played = self.check(one, path, [("x", "y")])
        self.assertEqual(played.leads[-1][0], played.leads[-1][1])
        self.check(one, path, [("x", "z")])
        one_more = spread("do make x, make y, put y, fetch z, write z f")
        self.assertIsNotNone(self.check(one_more, to_the_end(one_more), [("y", "z")]))
        self.assertIsNone(self.check(one_more, to_the_end(one_more), [("x", "z")]))
        self.assertIsNone(self.check(one, path, [("y", "z")]))
        self.assertIsNone(self.check(one, path, [("x", "u")]))

    def test_a_shared_place_shares(self):
        one = spread("do make x, call lend x as g, fetch y", "drop g")
        for choose in (0, 1):
            self.assertIsNotNone(self.check(one, to_the_end(one, choose), [("x", "y")]))
        one = spread("do make x, fetch y")
        self.assertIsNone(self.check(one, to_the_end(one), [("x", "y")]))

    def test_calls_change_all_that_they_may(self):
        one = spread("do make x, call wide, fetch y, call fill z, call fill x", "with take a", "do call wide, call fill y",
                     "close", "do put x, call wide")
        played = self.check(one, to_the_end(one), [("y", "z")])
        self.assertIsNotNone(played)
        self.assertIsNotNone(self.check(one, to_the_end(one)))
        one = spread("do make u, call wide, call fill x, put u, call wide")
        self.assertIsNotNone(self.check(one, to_the_end(one)))

    def test_a_kind_without_names_has_a_first_object(self):
        one = Spread(House.read("kind k - n\nkind m - n n2\nroutine r\ndone"), "r")
        self.assertEqual(sorted(kind for kind, _ in joined_run(one, [START]).objects), ["k", "m"])

    def test_an_object_that_no_name_has_at_the_end_is_one_of_its_own(self):
        one = spread("do fetch x, fetch x, fetch x y, make y, make y, fetch y")
        self.check(one, to_the_end(one), [("x", "y", "z")])
        self.check(one, to_the_end(one), [("x", "z")])

    def test_all_groupings_against_all_runs(self):
        rng = random.Random(15)
        joined = clashes = 0
        for seed in range(600):
            one = Spread(random_house(seed + 1000, rows=8), "r")
            path = random_path(rng, one, 14)
            while sum(one.points[node[0]].step[0] == "fetch" for node in path[:-1]) > 3:
                path.pop()
            names = list(kinds_of(one))
            blocks = list(records(one, path))[-1].blocks
            possible = {grouping_of(names, leads) for leads, _ in endings(one, path)}
            found = set()
            for groups in groupings(names):
                played = self.check(one, path, groups)
                joined, clashes = joined + (played is not None), clashes + (played is None)
                if played is not None and all(any(set(block) <= set(group) for group in groups) for block in blocks):
                    found.add(frozenset(map(frozenset, groups)))
            self.assertEqual(found, possible)
        self.assertGreater(min(joined, clashes), 300)

    def test_runs_along_the_tables_of_full_houses(self):
        for text in (SETTLED, WORDS):
            house = House.read(text)
            for routine in house.routines:
                one = Spread(house, routine.name)
                table = LoneTable(one)
                for node in table.nodes[::7]:
                    self.check(one, table.path_to(node))


if __name__ == "__main__":
    unittest.main()
