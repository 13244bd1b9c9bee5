"""[53], [57]: weavings, default moves and finishing, against a second reading."""

import random
import unittest

from floor_oracle import Floor, Mover, random_firsts
from helpers import NO_NUMBERS, TEXTS, error_of
from random_houses import random_house
from test_machine import FIRSTS, HOUSE, INSIDE, START, machine_after, state_of
from handsroom.houses import House
from handsroom.machine import Machine
from handsroom.replay import default_move, finish, length_of, replay

HEAD = "lock a\nlock b\nkind k - n\nkind j - n\nbody lend : +a +b a>b =b\nbody both : +a +b =a =b\nbody hit : +a +b a>b k.n\n"
JOINT = [("k", (1,)), ("k", (2,)), ("j", (3,))]


def house_of(*rows, names="x:k y:k"):
    return House.read(HEAD + "\n".join(["routine r " + names if names else "routine r", *rows, "done"]))


def started(house, *moves, objects=(0, 1), firsts=None):
    machine = Machine(house, firsts or JOINT)
    machine.attempt([(0, ("start", "r", objects))] + [(0, move) for move in moves])
    return machine


class ReplayTest(unittest.TestCase):
    def test_length(self):
        for wrap in (list, tuple):
            self.assertEqual(length_of(wrap(INSIDE)), 5)
            self.assertEqual(length_of(wrap(INSIDE + ((0, ("leave", None, 6)), (1, ("start", "s", ()))))), 6)
            self.assertEqual(length_of(wrap([])), 0)

    def test_replay(self):
        for wrap in (list, tuple):
            machine = replay(HOUSE, wrap(FIRSTS), wrap(INSIDE))
            self.assertIs(type(machine), Machine)
            self.assertEqual(state_of(machine), state_of(machine_after(*INSIDE)))
        self.assertEqual(len(replay(HOUSE, FIRSTS, [])), 0)

    def test_errors(self):
        wrong = [(0, START), (0, ("enter",))]
        self.assertEqual(error_of(replay, HOUSE, FIRSTS, wrong), ("Refused", 1))
        self.assertEqual(error_of(replay, HOUSE, FIRSTS[:1], wrong), ("NoFirst", "bag"))
        self.assertEqual(error_of(replay, HOUSE, [("none", ()), ("box", (1,))], wrong), ("NoSuch", "none"))
        self.assertEqual(error_of(replay, HOUSE, [("box", (1,))], wrong), ("WrongFirst", 0))

    def test_a_long_weaving_of_many_hands(self):
        text = "kind k - n\nroutine r x:k\nrepeat\ndo write x n, read x n\nclose\ndone"
        turns = [(hand, ("start", "r", (0,))) for hand in range(8)]
        for at in range(49):
            move = (("go", None, 1), ("go", at, 2), ("go", None, 0))[at % 3]
            turns += [(hand, move) for hand in range(8)]
        machine = replay(House.read(text), [("k", (5,))], turns)
        self.assertEqual((len(machine), len(machine.turns_made), length_of(turns)), (8, 400, 392))
        self.assertEqual([shown for _, shown in machine.shows_made[:8]], [1] * 8)


class DefaultTest(unittest.TestCase):
    def defaults(self, machine):
        return default_move(machine, 0)

    def test_goes(self):
        house = house_of("do make x, read x n, write y n, keep y n, copy x y, put y, take a, skip", "either", "close",
                         "repeat", "do skip", "close")
        machine = started(house)
        found = []
        while not machine.hand_at(0).over:
            found.append(self.defaults(machine))
            machine.turn(0, found[-1])
        self.assertEqual(found, [
            ("go", None, 1), ("go", None, 2), ("go", 0, 3), ("go", None, 4), ("go", None, 5), ("go", None, 6), ("go", None, 7),
            ("go", None, 8), ("go", None, 9), ("go", None, 10), ("go", None, 12), ("go", None, None)])
        self.assertIsNone(self.defaults(machine))

    def test_fetches(self):
        house = house_of("do fetch x x", "do fetch y x y")
        machine = started(house)
        self.assertEqual(self.defaults(machine), ("go", 1, 1))
        machine.turn(0, ("go", 1, 1))
        self.assertEqual(self.defaults(machine), ("go", 0, 2))
        # With each object barred the hand is short.
        short = started(house_of("do fetch y x y"))
        self.assertEqual((self.defaults(short), short.step_at(0)), (None, ("fetch", "y", "x", "y")))

    def test_calls(self):
        machine = started(house_of("do call lend as g, call hit, skip"))
        self.assertEqual(self.defaults(machine), ("enter",))
        for move in [("enter",), ("want", "b"), ("take",), ("leave", "b", 1), ("enter",), ("leave", None, 2), ("go", None, 3)]:
            self.assertEqual(self.defaults(machine), move)
            machine.turn(0, move)

    def test_inside_calls(self):
        """The first that fits: the take, the leave, the back, the want, the leave with None."""
        lend = house_of("do call lend as g")
        inside = [("enter",), ("want", "a")]
        self.assertEqual(self.defaults(started(lend, *inside)), ("take",))
        # A lock that is not given goes back first.
        self.assertEqual(self.defaults(started(lend, *inside, ("take",))), ("back",))
        self.assertEqual(self.defaults(started(lend, *inside, ("take",), ("want", "b"), ("take",))), ("back",))
        self.assertEqual(self.defaults(started(lend, *inside, ("take",), ("want", "b"))), ("take",))
        self.assertEqual(self.defaults(started(lend, *inside, ("take",), ("back",))), ("want", "b"))
        both = house_of("do call both as g")
        self.assertEqual(self.defaults(started(both, ("enter",))), ("want", "a"))
        self.assertEqual(self.defaults(started(both, ("enter",), ("want", "b"), ("take",))), ("leave", "b", 1))
        hit = house_of("do call hit")
        self.assertEqual(self.defaults(started(hit, ("enter",), ("want", "a"), ("take",), ("change", 1, "n", 4))), ("back",))

    def test_a_hand_that_must_wait(self):
        house = house_of("do take a, skip", names="")
        machine = Machine(house, JOINT)
        machine.attempt([(0, ("start", "r", ())), (1, ("start", "r", ())), (0, ("go", None, 1))])
        self.assertEqual((machine.waits_for(1), default_move(machine, 1)), (0, ("go", None, 1)))

    def test_numbers_of_hands(self):
        machine = started(house_of("do skip"))
        for value in NO_NUMBERS + (-1, 1, 10 ** 40):
            self.assertEqual(error_of(default_move, machine, value), ("NoHand", value))


class FinishTest(unittest.TestCase):
    def test_finish(self):
        house = house_of("do take a as g", "do skip", names="")
        machine = Machine(house, JOINT)
        machine.attempt([(0, ("start", "r", ())), (1, ("start", "r", ()))])
        told = state_of(machine)
        turns = finish(machine)
        self.assertEqual(turns, tuple([(0, ("go", None, at)) for at in (1, 2, 3, None)] +
                                      [(1, ("go", None, at)) for at in (1, 2, 3, None)]))
        self.assertEqual(state_of(machine), told)
        machine.attempt(turns)
        self.assertEqual(finish(machine), ())
        self.assertEqual(finish(Machine(house, JOINT)), ())

    def test_the_least_hand_that_need_not_wait(self):
        house = house_of("do take a as g", "do skip", names="")
        machine = Machine(house, JOINT)
        machine.attempt([(0, ("start", "r", ())), (1, ("start", "r", ())), (1, ("go", None, 1)), (1, ("go", None, 2))])
        # Hand 0 waits until hand 1 has dropped its guard, and goes ahead of it from then on.
        self.assertEqual(finish(machine), (
            (1, ("go", None, 3)), (0, ("go", None, 1)), (0, ("go", None, 2)), (0, ("go", None, 3)), (0, ("go", None, None)),
            (1, ("go", None, None))))

    def test_rings_and_short_hands(self):
        text = HEAD + "routine r x:j\ndo fetch x x\ndone\nroutine s\ndo take a, take b\ndone\nroutine t\ndo take b, take a\ndone"
        house = House.read(text)
        machine = Machine(house, JOINT)
        machine.attempt([(0, ("start", "t", ())), (1, ("start", "r", (2,))), (2, ("start", "s", ())), (3, ("start", "r", (2,))),
                         (2, ("go", None, 1))])
        self.assertEqual(error_of(finish, machine), ("Unfinished", (0, 2), (1, 3)))
        self.assertEqual(len(machine.turns_made), 5)
        machine = Machine(house, JOINT)
        machine.attempt([(0, ("start", "r", (2,))), (1, ("start", "s", ()))])
        self.assertEqual(error_of(finish, machine), ("Unfinished", (), (0,)))
        machine = Machine(house, JOINT)
        machine.attempt([(0, ("start", "s", ())), (1, ("start", "t", ())), (0, ("go", None, 1)), (1, ("go", None, 1))])
        self.assertEqual(error_of(finish, machine), ("Unfinished", (0, 1), ()))

    def test_a_hand_that_waits_for_itself(self):
        machine = started(house_of("with take b", "do call lend", "close", names=""), objects=())
        self.assertEqual(error_of(finish, machine), ("Unfinished", (0,), ()))


class OracleTest(unittest.TestCase):
    def default(self, floor, hand):
        """The default move, as [57] tells it."""
        one, step = floor.hands[hand], floor.step(hand)
        if one["point"] is None:
            return None
        nexts = floor.nexts(hand)
        if one["stack"] is None and step[0] != "call":
            answer = 0 if step[0] == "write" else None
            if step[0] == "fetch":
                fitting = [number for number in range(len(floor.objects)) if floor.answers(hand, number)]
                if not fitting:
                    return None
                answer = fitting[0]
            return ("go", answer, nexts[-1] if nexts else None)
        if one["stack"] is None:
            return ("enter",)
        gives = [mark[1] for mark in floor.marks(hand) if mark[0] == "gives"]
        tries = [("take",)] + [("leave", lock, nexts[0]) for lock in gives] + [("back",)]
        tries += [("want", lock) for lock in gives[:1]] + [("leave", None, nexts[0])]
        return [move for move in tries if floor.move_rule(hand, move) is None][0]

    def finished(self, floor):
        """The turns that finish, and then the hands that are not over."""
        turns = []
        while True:
            for hand in range(len(floor.hands)):
                move = self.default(floor, hand)
                if move is not None and floor.waits_for(hand) is None:
                    floor.make(hand, move)
                    turns.append((hand, move))
                    break
            else:
                return turns, [hand for hand, one in enumerate(floor.hands) if one["point"] is not None]

    def walk(self, rng, house, seen):
        firsts = random_firsts(rng, house, rng.choice((1, 2, 5)))
        machine, floor = Machine(house, firsts), Floor(house, firsts)
        mover = Mover(rng, floor)
        for _ in range(rng.randint(0, 50)):
            hand, move = mover.turn(0)
            if floor.refusal(hand, move) is None:
                floor.make(hand, move)
                machine.turn(hand, move)
        for hand in range(len(machine)):
            move = self.default(floor, hand)
            self.assertEqual(default_move(machine, hand), move)
            if move is not None:
                seen[move[0]] = seen.get(move[0], 0) + 1
        told = state_of(machine)
        five = len(firsts) == 5 * len(house.kinds)
        turns, left = self.finished(floor)
        if left:
            short = tuple(hand for hand in left if self.default(floor, hand) is None)
            self.assertEqual(error_of(finish, machine), ("Unfinished", floor.ring(), short))
            # A state from which nothing goes on has a ring or a short hand.
            self.assertTrue(floor.ring() or short)
            self.assertFalse(five and short)
            key = "ring" if floor.ring() else "short"
        else:
            self.assertEqual(finish(machine), tuple(turns))
            key = "finished"
        seen[key] = seen.get(key, 0) + 1
        self.assertEqual(state_of(machine), told)

    def test_random_machines(self):
        rng = random.Random(57)
        seen = {}
        houses = [House.read(text) for text in TEXTS] * 12 + [random_house(seed, rows=7, routines=2) for seed in range(420)]
        for house in houses:
            self.walk(rng, house, seen)
        self.assertEqual(sorted(seen), sorted("go enter want take back leave ring short finished".split()))
        self.assertGreater(min(seen.values()), 4)


if __name__ == "__main__":
    unittest.main()
