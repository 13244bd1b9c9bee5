"""[25] to [27], [29]: nodes, lone paths, lone tables, held sets."""

import random
import unittest

from helpers import NO_NUMBERS, TEXTS, error_of
from random_houses import random_house, random_path
from run_oracle import levels, successors
from handsroom.guards import makers
from handsroom.houses import House
from handsroom.lonetable import (
    START, LoneTable, is_closed, locks_of, lone_path, missing_nodes, next_nodes)
from handsroom.spreading import Spread

HEAD = "lock a\nlock b\nlock c\nkind k - n\nbody lend : +a +b =a =b\n"


# Values that have not the form of a node, also where they are equal to one or cannot be a key.
NO_NODES = [None, 5, "ab", (), (0,), (0, (), ()), [0, ()], (0, []), (0, None), ("0", ()), (0, (5,)), (0, (("g",),)),
            (0, (["g", "a"],)), (0, (("g", ["a"]),)), (0, (("g", None),)), (0, ((1, "a"),)), (0, ("ga",))]


def spread(*rows):
    return Spread(House.read(HEAD + "\n".join(["routine r", *rows, "done"])), "r")


def spreads(many=120):
    houses = [House.read(text) for text in TEXTS] + [random_house(seed, rows=9) for seed in range(many)]
    return [Spread(house, routine.name) for house in houses for routine in house.routines]


class NodeTest(unittest.TestCase):
    def test_start(self):
        self.assertEqual(START, (0, ()))
        self.assertEqual(locks_of((("g", "b"), ("0.0", "a"))), ("b", "a"))
        self.assertEqual(locks_of(()), ())

    def test_next_nodes(self):
        one = spread("do take b as g, call lend as h", "either", "drop g", "close", "give h")
        self.assertEqual(next_nodes(one, START), ((1, (("g", "b"),)),))
        self.assertEqual(next_nodes(one, (0, (("h", "b"),))), ())
        self.assertEqual(next_nodes(one, (0, (("h", "a"),))), ((1, (("h", "a"), ("g", "b"))),))
        self.assertEqual(next_nodes(one, (1, (("g", "b"),))), ((2, (("g", "b"), ("h", "a"))),))
        self.assertEqual(next_nodes(one, (1, ())), ((2, (("h", "a"),)), (2, (("h", "b"),))))
        self.assertEqual(next_nodes(one, (1, (("g", "b"), ("x", "a")))), ())
        guards = (("g", "b"), ("h", "a"))
        self.assertEqual(next_nodes(one, (2, guards)), ((3, guards), (4, guards)))
        self.assertEqual(next_nodes(one, (3, guards)), ((4, (("h", "a"),)),))
        self.assertEqual(next_nodes(one, (3, ())), ((4, ()),))
        self.assertEqual(next_nodes(one, (5, guards)), ())
        for value in (-1, 6, 10 ** 40) + NO_NUMBERS:
            self.assertEqual(error_of(next_nodes, one, (value, ())), ("NoNode", (value, ())))
        for node in NO_NODES:
            self.assertEqual(error_of(next_nodes, one, node), ("NoNode", node))
            self.assertEqual(error_of(lone_path, one, [node]), ("BadPath", 0))

    def test_lone_path(self):
        one = spread("do take a", "repeat", "do skip", "close")
        held = (("0.0", "a"),)
        path = [(0, ()), (1, held), (2, ()), (3, ()), (2, ()), (4, ())]
        self.assertEqual(lone_path(one, path), tuple(path))
        self.assertEqual(lone_path(one, path[:1]), (START,))
        self.assertEqual(error_of(lone_path, one, []), ("BadPath", 0))
        self.assertEqual(error_of(lone_path, one, ()), ("BadPath", 0))
        for at in range(len(path)):
            for node in [(3, held), (9, ()), (-1, ()), (True, held), (False, ()), [0, ()], (0, []), (2, ((held[0]),))]:
                if node != path[at] or node[0] is False or node[0] is True:
                    self.assertEqual(error_of(lone_path, one, path[:at] + [node] + path[at:]), ("BadPath", at), node)
        self.assertEqual(error_of(lone_path, one, path + [(4, ())]), ("BadPath", 6))

    def test_missing_nodes(self):
        one = spread("do take a", "either", "do skip", "close")
        held = (("0.0", "a"),)
        nodes = [(0, ()), (1, held), (2, ()), (3, ()), (4, ())]
        self.assertEqual(missing_nodes(one, nodes), ())
        self.assertTrue(is_closed(one, nodes) and is_closed(one, nodes[::-1]) and is_closed(one, nodes * 2))
        self.assertEqual(missing_nodes(one, []), (START,))
        self.assertEqual(missing_nodes(one, [(2, ())]), (START, (3, ()), (4, ())))
        self.assertEqual(missing_nodes(one, [(2, ()), (3, ()), (2, held)]), (START, (4, ()), (3, held), (4, held)))
        self.assertEqual(missing_nodes(one, [(2, ()), START]), ((3, ()), (4, ()), (1, held)))
        self.assertFalse(is_closed(one, nodes[1:]))
        self.assertFalse(is_closed(one, []))
        for node in [(5, ()), (-1, ()), (True, ())]:
            self.assertEqual(error_of(missing_nodes, one, [(2, ()), node, (99, ())]), ("NoNode", node))
            self.assertEqual(error_of(is_closed, one, (node,)), ("NoNode", node))
        loop = spread("repeat", "close")
        self.assertEqual(missing_nodes(loop, [(1, ())]), (START,))


class TableTest(unittest.TestCase):
    def test_a_table(self):
        one = spread("either", "do take a as g", "do call lend as h", "or", "do call lend as i", "close", "do take c")
        table = LoneTable(one)
        g, ha, hb = ("g", "a"), ("h", "b"), ("i", "a")
        self.assertIs(table.spread, one)
        self.assertEqual(table.nodes[:6], (
            START, (1, ()), (5, ()), (2, (g,)), (6, (hb,)), (6, (("i", "b"),))))
        self.assertEqual(table.nodes[6], (3, (g, ha)))
        self.assertEqual((list(table), len(table)), (list(table.nodes), len(table.nodes)))
        self.assertIn((2, (g,)), table)
        for node in [(2, ()), (99, ()), (False, ())] + NO_NODES:
            self.assertNotIn(node, table)
            self.assertEqual(error_of(table.number_of, node), ("NoNode", node))
        self.assertEqual([table.distance_to(node) for node in table.nodes[:7]], [0, 1, 1, 2, 2, 2, 3])
        self.assertIsNone(table.parent_of(START))
        self.assertEqual(table.parent_of((3, (g, ha))), (2, (g,)))
        self.assertEqual(table.path_to((3, (g, ha))), (START, (1, ()), (2, (g,)), (3, (g, ha))))
        self.assertEqual(table.path_to(START), (START,))
        self.assertEqual(table.number_of((6, (hb,))), 4)
        for ask in (table.number_of, table.distance_to, table.parent_of, table.path_to):
            for node in [(2, ()), (99, ()), (-1, ()), (False, ())]:
                self.assertEqual(error_of(ask, node), ("NoNode", node))

    def test_the_parent_is_the_node_found_first(self):
        # Both ways to the stop are of one length; the first next node of the fork decides.
        one = spread("either", "do skip", "or", "do skip", "close")
        table = LoneTable(one)
        self.assertEqual(table.path_to((3, ())), (START, (1, ()), (3, ())))
        self.assertEqual(table.nodes, (START, (1, ()), (2, ()), (3, ())))

    def test_held_sets(self):
        one = spread("do call lend as g", "either", "do take c as h", "drop h", "close", "do skip", "do take a as i",
                     "do take b", "do take b")
        table = LoneTable(one)
        self.assertEqual(table.held_sets(0), ((),))
        self.assertEqual(table.held_sets(1), (("a",), ("b",)))
        self.assertEqual(table.held_sets(3), (("a", "c"), ("b", "c")))
        self.assertEqual((table.always(3), table.ever(3)), (("c",), ("a", "b", "c")))
        self.assertEqual((table.always(1), table.ever(1)), ((), ("a", "b")))
        point = one.points_of(7)[0]
        self.assertEqual((table.held_sets(point), table.always(point)), ((("a", "b"),), ("a", "b")))
        after = one.points_of(8)[0]
        self.assertEqual((table.held_sets(after), table.nodes_at(after)), ((), ()))
        self.assertEqual((table.always(after), table.ever(after)), (("a", "b", "c"), ()))
        self.assertEqual(table.nodes_at(1), ((1, (("g", "a"),)), (1, (("g", "b"),))))
        for value in NO_NUMBERS + (-1, len(one), 10 ** 40):
            for ask in (table.nodes_at, table.held_sets, table.always, table.ever):
                self.assertEqual(error_of(ask, value), ("BadPoint", value))

    def test_held_sets_are_in_the_order_of_the_house(self):
        one = spread("either", "do take c as g, take a as h", "do skip", "close", "do skip")
        point = one.points_of(4)[0]
        self.assertEqual(LoneTable(one).held_sets(one.points_of(2)[0]), (("a", "c"),))
        self.assertEqual(LoneTable(one).held_sets(point), ((),))
        one = spread("either", "do take c as g", "do skip", "or", "do take b as h, take a as i", "repeat", "drop h",
                     "close", "do skip", "close")
        self.assertEqual(LoneTable(one).held_sets(one.points_of(8)[0]), (("a",), ("a", "b")))

    def test_stuck_nodes(self):
        one = spread("do take a as g", "either", "do take a", "or", "do call lend as h", "do call lend as i", "close")
        table = LoneTable(one)
        self.assertEqual(table.stuck_nodes(), ((2, (("g", "a"),)), (5, (("g", "a"), ("h", "b")))))
        self.assertEqual(LoneTable(spread()).stuck_nodes(), ())
        self.assertEqual(LoneTable(spread("repeat", "close")).nodes, (START, (1, ())))

    def test_against_the_oracle(self):
        for one in spreads():
            table = LoneTable(one)
            want = levels(one)
            self.assertEqual(sorted(table.nodes), sorted(want))
            self.assertTrue(is_closed(one, table.nodes))
            self.assertEqual([want[node] for node in table], sorted(want.values()))
            for number, node in enumerate(table):
                self.assertEqual(table.number_of(node), number)
                self.assertEqual(table.distance_to(node), want[node])
                self.assertEqual(next_nodes(one, node), tuple(successors(one, node)))
                path = table.path_to(node)
                self.assertEqual((lone_path(one, path), len(path), path[-1]), (path, want[node] + 1, node))
                if number:
                    self.assertEqual(table.parent_of(node), path[-2])
                    known = [other for other in table if node in next_nodes(one, other)]
                    self.assertEqual(table.parent_of(node), known[0])
            self.check_points(one, table)

    def test_numbers_follow_the_way_they_are_found(self):
        for one in spreads(40):
            found = [START]
            for node in found:
                found += [after for after in successors(one, node) if after not in found]
            self.assertEqual(LoneTable(one).nodes, tuple(found))

    def check_points(self, one, table):
        order = one.house.locks
        tags = [maker.tag for maker in makers(one.house, one.name)]
        for point in range(len(one)):
            nodes = [node for node in table if node[0] == point]
            self.assertEqual(table.nodes_at(point), tuple(nodes))
            held = {tuple(sorted(locks_of(guards), key=order.index)) for _, guards in nodes}
            want = sorted(held, key=lambda locks: [order.index(lock) for lock in locks])
            self.assertEqual(table.held_sets(point), tuple(want))
            self.assertEqual(table.always(point), tuple(lock for lock in order if all(lock in one for one in held)))
            self.assertEqual(table.ever(point), tuple(lock for lock in order if any(lock in one for one in held)))
            for _, guards in nodes:
                made = [tags.index(tag) for tag, _ in guards]
                self.assertEqual(made, sorted(set(made)))
                self.assertEqual(len(set(locks_of(guards))), len(guards))
        stuck = [node for node in table if not successors(one, node) and one.points[node[0]].step[0] != "stop"]
        self.assertEqual(table.stuck_nodes(), tuple(stuck))

    def test_random_paths(self):
        rng = random.Random(12)
        for one in spreads(60):
            path = random_path(rng, one, 20)
            self.assertEqual(lone_path(one, path), tuple(path))
            table = LoneTable(one)
            self.assertTrue(all(node in table and table.distance_to(node) <= at for at, node in enumerate(path)))


if __name__ == "__main__":
    unittest.main()
