"""The paragraph on standard first objects and standard moves behind [60]."""

import random
import unittest

from helpers import NO_NUMBERS, ODD_VALUES, TEXTS, error_of
from random_houses import random_house, random_path
from run_oracle import Player, kinds_of
from handsroom.answers import own_stacks, wishes
from handsroom.houses import House
from handsroom.joining import joined_run
from handsroom.lonetable import START, LoneTable, next_nodes
from handsroom.loneruns import Run, play
from handsroom.machine import Machine
from handsroom.replay import default_move, length_of, replay
from handsroom.runs import stale_run
from handsroom.spreading import Spread
from handsroom.standard import moves_along, standard_firsts, standard_moves

TEXT = "\n".join([
    "lock a", "lock b", "kind box a f g", "kind bag - n", "body lend box : +a +b a>b =a =b", "body hit : +a +b a>b b>a",
    "routine r u:bag x:box y:box", "do fetch y x, write y f, read x g, call lend x as h", "do call hit", "done",
    "routine s", "done"])
HOUSE = House.read(TEXT)


def path_of(house, name, *choices):
    """The lone path that takes the next nodes of these indexes, then the first ones."""
    spread = Spread(house, name)
    path = [START]
    choices = list(choices)
    while next_nodes(spread, path[-1]):
        following = next_nodes(spread, path[-1])
        path.append(following[choices.pop(0) if choices and len(following) > 1 else 0])
    return path


class FirstsTest(unittest.TestCase):
    def test_five_of_each_kind(self):
        self.assertEqual(standard_firsts(HOUSE), (("box", (0, 0)),) * 5 + (("bag", (0,)),) * 5)
        Machine(HOUSE, standard_firsts(HOUSE))


class MovesTest(unittest.TestCase):
    def test_moves_along(self):
        path = path_of(HOUSE, "r", 1)[:6]
        answers = [1, 7, None, [("want", "b"), ("take",)], ()]
        want = (("start", "r", (5, 0, 1)), ("go", 1, 1), ("go", 7, 2), ("go", None, 3), ("enter",), ("want", "b"), ("take",),
                ("leave", "b", 4), ("enter",), ("leave", None, 5))
        for wrap in (list, tuple):
            found = moves_along(HOUSE, "r", wrap(path), wrap([5, 0, 1]), wrap(answers))
            self.assertEqual(found, want)
            self.assertIsInstance(found[0][2], tuple)
        self.assertEqual(moves_along(HOUSE, "s", [START], [], []), (("start", "s", ()),))
        self.assertEqual(moves_along(HOUSE, "r", path[:1], (5, 0, 1), ()), want[:1])

    def test_nothing_is_checked(self):
        found = moves_along(HOUSE, "r", path_of(HOUSE, "r")[:2], (99, "none"), (-3,))
        self.assertEqual(found, (("start", "r", (99, "none")), ("go", -3, 1)))

    def test_a_list_that_changes_later_changes_nothing(self):
        objects, inside = [5, 0, 1], [("want", "a"), ("take",)]
        answers = [1, 7, None, inside]
        found = moves_along(HOUSE, "r", path_of(HOUSE, "r")[:5], objects, answers)
        objects[0] = 9
        inside.clear()
        self.assertEqual((found[0][2], found[5]), ((5, 0, 1), ("want", "a")))

    def test_a_call_behind_a_call(self):
        """The lock is that of the guard that the next node has more."""
        path = path_of(HOUSE, "r", 0)
        found = standard_moves(HOUSE, "r", path)
        self.assertEqual(found, (
            ("start", "r", (5, 0, 0)), ("go", 1, 1), ("go", 0, 2), ("go", None, 3), ("enter",), ("want", "a"), ("take",),
            ("leave", "a", 4), ("enter",), ("leave", None, 5), ("go", None, 6)))
        self.assertIn(("leave", "b", 4), standard_moves(HOUSE, "r", path_of(HOUSE, "r", 1)))

    def test_the_stop_is_not_made(self):
        path = path_of(HOUSE, "r")
        machine = replay(HOUSE, standard_firsts(HOUSE), [(0, move) for move in standard_moves(HOUSE, "r", path)])
        self.assertEqual((machine.step_at(0), length_of(machine.turns_made)), (("stop", ""), len(path) - 1))

    def test_into_a_call(self):
        path = path_of(HOUSE, "r")[:5]
        start = standard_moves(HOUSE, "r", path)
        self.assertEqual(standard_moves(HOUSE, "r", path, stack=None, wanted=None), start)
        for wrap in (list, tuple):
            more = [(wrap(()), None, (("enter",),)), (wrap(()), "b", (("enter",), ("want", "b"))),
                    (wrap("b"), None, (("enter",), ("want", "b"), ("take",))),
                    (wrap("b"), "a", (("enter",), ("want", "b"), ("take",), ("want", "a"))),
                    (wrap("ab"), None, (("enter",), ("want", "a"), ("take",), ("want", "b"), ("take",)))]
            for stack, wanted, moves in more:
                self.assertEqual(standard_moves(HOUSE, "r", path, stack=stack, wanted=wanted), start + moves)

    def test_errors(self):
        path = path_of(HOUSE, "r")
        for value in ODD_VALUES + ("x", "box", "hit", 0):
            self.assertEqual(error_of(standard_moves, HOUSE, value, []), ("NoSuch", value))
            self.assertEqual(error_of(moves_along, HOUSE, value, [], (), ()), ("NoSuch", value))
        for wrong, position in [([], 0), (path[1:], 0), (path + path[-1:], len(path)), ([START, START], 1)]:
            self.assertEqual(error_of(standard_moves, HOUSE, "r", wrong), ("BadPath", position))
            self.assertEqual(error_of(standard_moves, HOUSE, "r", wrong, stack=("none",), wanted=0), ("BadPath", position))
            self.assertEqual(error_of(moves_along, HOUSE, "r", wrong, (), ()), ("BadPath", position))
        for at in range(len(path)):
            for value in ODD_VALUES + NO_NUMBERS + ((99, ()), (at, []), (at, (("h", "none"),))):
                wrong = path[:at] + [value] + path[at + 1:]
                self.assertEqual(error_of(standard_moves, HOUSE, "r", wrong), ("BadPath", at))


class OracleTest(unittest.TestCase):
    def houses(self, many):
        return [House.read(text) for text in TEXTS] * 3 + [random_house(seed, rows=9, names=4) for seed in range(many)]

    def test_standard_moves_lead_to_the_last_node(self):
        """Alone, with the standard first objects, the hand comes to the last node by default answers."""
        rng = random.Random(80)
        seen = {}
        for house in self.houses(250):
            name = rng.choice(house.routines).name
            path = random_path(rng, Spread(house, name), rng.randint(0, 25))
            machine = Machine(house, standard_firsts(house))
            moves = standard_moves(house, name, path)
            self.check_start(house, name, moves[0])
            at = 0
            for move in moves:
                seen[move[0]] = seen.get(move[0], 0) + 1
                if move[0] == "go":
                    default = default_move(machine, 0)
                    self.assertEqual(move[:2], default[:2])
                if move[0] in ("go", "leave"):
                    at += 1
                    self.assertEqual(move[2], path[at][0])
                machine.turn(0, move)
            hand = machine.hand_at(0)
            self.assertEqual(((hand.point, hand.guards), hand.stack, at), (path[-1], None, len(path) - 1))
            self.check_call(rng, house, name, path, hand)
            named = [move[1] for move in moves if move[0] == "go" and move[1] is not None]
            self.assertLess(max(named, default=0), 5 * len(house.kinds))
        self.assertGreater(min(seen[word] for word in ("go", "enter", "want", "take", "leave")), 5)

    def check_start(self, house, name, move):
        kinds = list(kinds_of(Spread(house, name)).values())
        self.assertEqual(move, ("start", name, tuple(5 * house.kinds.index(kind) for kind in kinds)))

    def check_call(self, rng, house, name, path, hand):
        """Into the call at the last node: all own stacks without a lock that the hand holds, and all wishes."""
        step = Spread(house, name).points[path[-1][0]].step
        if step[0] != "call":
            return
        signature = house.signature_of(step[1])
        told = [(stack, None) for stack in own_stacks(signature)] + list(wishes(signature))
        told = [one for one in told if not set(one[0]) & set(hand.held)]
        for stack, wanted in rng.sample(told, min(len(told), 4)):
            moves = standard_moves(house, name, path, stack=stack, wanted=wanted)
            machine = replay(house, standard_firsts(house), [(0, move) for move in moves])
            inside = machine.hand_at(0)
            self.assertEqual((inside.point, inside.guards, inside.stack, inside.wanted),
                             (hand.point, hand.guards, stack, wanted))
            self.assertEqual((inside.held, machine.wants(0)), (hand.held + stack, wanted))

    def test_runs_along_paths(self):
        """A run, and the moves along its path with its start and answers, do the same."""
        rng = random.Random(81)
        shown = 0
        for house in self.houses(250):
            name = rng.choice(house.routines).name
            spread = Spread(house, name)
            path = random_path(rng, spread, rng.randint(0, 20))
            for run in self.runs(rng, spread, path):
                played = play(spread, path, run)
                moves = moves_along(house, name, path, run.start, run.answers)
                machine = replay(house, run.objects, [(0, move) for move in moves])
                hand = machine.hand_at(0)
                names = list(kinds_of(spread))
                self.assertEqual((hand.point, hand.guards), path[-1])
                self.assertEqual(tuple(hand.leads_to(one) for one in names), played.leads[-1])
                self.assertEqual(tuple(hand.sheet_of(one) for one in names), played.sheets[-1])
                self.assertEqual(tuple(row[:2] for row in machine.heap_now.object_rows), played.contents)
                steps = [spread.points[node[0]].step[0] for node in path[:-1]]
                shows = tuple((0, one) for one, word in zip(played.shown, steps) if word in ("read", "keep"))
                self.assertEqual(machine.shows_made, shows)
                self.assertEqual([fault[0] for fault in machine.faults_made],
                                 [fault for fault in played.faults[:-1] if fault is not None])
                shown += len(shows)
        self.assertGreater(shown, 200)

    def runs(self, rng, spread, path):
        yield joined_run(spread, path)
        for name, kind in kinds_of(spread).items():
            found = stale_run(spread, path, name, rng.choice(spread.house.fields_of(kind)))
            if found is not None:
                yield found
        firsts = standard_firsts(spread.house)
        kinds = [kind for kind, _ in firsts]
        start = [rng.choice([at for at, one in enumerate(kinds) if one == kind]) for kind in kinds_of(spread).values()]
        player = Player(spread, Run(firsts, start, ()))
        answers = []
        for node, following in zip(path, path[1:]):
            answers.append(rng.choice(player.answers(node, following)))
            player.step(spread.points[node[0]].step, answers[-1])
        yield Run(firsts, start, answers)

    def test_all_nodes_of_lone_tables(self):
        for text in TEXTS[:3]:
            house = House.read(text)
            for routine in house.routines:
                table = LoneTable(Spread(house, routine.name))
                for node in table.nodes[::3]:
                    moves = standard_moves(house, routine.name, table.path_to(node))
                    machine = replay(house, standard_firsts(house), [(0, move) for move in moves])
                    self.assertEqual((machine.hand_at(0).point, machine.hand_at(0).guards), node)
                    self.assertEqual(length_of(machine.turns_made), table.distance_to(node))


if __name__ == "__main__":
    unittest.main()
