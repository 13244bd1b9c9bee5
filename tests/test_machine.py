"""[51] to [58]: machines, against a second reading, and each rule of [55] alone and beside the others."""

import random
import unittest

from floor_oracle import Floor, Mover, random_firsts
from helpers import NO_NUMBERS, ODD_VALUES, TEXTS, error_of
from random_houses import random_house
from handsroom.errors import HandsError, MustWait, NoHand, Refused, WrongMove
from handsroom.hands import Hand
from handsroom.heap import Heap
from handsroom.houses import House
from handsroom.machine import Machine

TEXT = "\n".join([
    "lock a", "lock b", "kind box a f g", "kind bag - n", "body fill box* : +a +b a>b box.f bag.n",
    "body lend box : +a +b =a =b", "routine r x:box y:box u:bag", "do take a as g", "do fetch x y, write x f, keep x g",
    "drop g", "do call fill x, call lend x as h", "do make y, read u n", "done",
    "routine s", "do take b, take a", "done"])
HOUSE = House.read(TEXT)
FIRSTS = (("box", (1, 2)), ("bag", (3,)), ("box", (4, 5)))
START = ("start", "r", (0, 2, 1))


def machine_after(*turns, house=HOUSE, firsts=FIRSTS):
    machine = Machine(house, firsts)
    machine.attempt(turns)
    return machine


# Hand 0 ahead of: the take, the fetch, the write, the first call, inside it.
TO_FETCH = ((0, START), (0, ("go", None, 1)))
TO_WRITE = TO_FETCH + ((0, ("go", 0, 2)),)
TO_CALL = TO_WRITE + ((0, ("go", 9, 3)), (0, ("go", None, 4)), (0, ("go", None, 5)))
INSIDE = TO_CALL + ((0, ("enter",)),)


def state_of(machine):
    """All that a machine tells of itself."""
    hands = []
    for number in range(len(machine)):
        hand = machine.hand_at(number)
        names = [name for name, _ in machine.house.routine_of(hand.routine).names]
        hands.append((hand.routine, hand.point, hand.guards, hand.stack, hand.wanted, hand.held, hand.over,
                      tuple(hand.leads_to(name) for name in names), tuple(hand.sheet_of(name) for name in names)))
    return (tuple(hands), machine.heap_now.object_rows, machine.turns_made, machine.shows_made, machine.faults_made)


class BeginningTest(unittest.TestCase):
    def test_a_new_machine(self):
        machine = Machine(HOUSE, list(FIRSTS))
        self.assertIs(machine.house, HOUSE)
        self.assertEqual((len(machine), machine.turns_made, machine.shows_made, machine.faults_made), (0, (), (), ()))
        self.assertIsInstance(machine.heap_now, Heap)
        self.assertEqual(machine.heap_now.object_rows, tuple(row + (None,) for row in FIRSTS))
        self.assertEqual((machine.ring(), machine.holder("a")), ((), None))

    def test_numbers_of_hands(self):
        machine = machine_after((0, START), (1, ("start", "s", [])))
        for ask in (machine.hand_at, machine.step_at, machine.nexts_at, machine.wants, machine.waits_for):
            for value in NO_NUMBERS + (-1, 2, 10 ** 40):
                self.assertEqual(error_of(ask, value), ("NoHand", value))
                self.assertEqual(error_of(machine.turn, value, ("go", None, 1)), ("NoHand", value))
        for value in NO_NUMBERS + (-1, 0, 1, 3, 10 ** 40):
            for move in (("start", "r", (0, 2, 1)), ("start", "none", ()), ("start",), ("start", 1, 2, 3)):
                self.assertEqual(error_of(machine.turn, value, move), ("NoHand", value))
        for value in ODD_VALUES + ("box", "c", 0):
            self.assertEqual(error_of(machine.holder, value), ("NoSuch", value))
        machine.turn(2, ("start", "s", ()))
        self.assertEqual(len(machine), 3)

    def test_a_started_hand(self):
        objects = [0, 2, 1]
        machine = machine_after((0, ("start", "r", objects)))
        objects[0] = 2
        hand = machine.hand_at(0)
        self.assertIsInstance(hand, Hand)
        self.assertEqual((hand.routine, hand.point, hand.guards, hand.stack, hand.wanted, hand.held, hand.over),
                         ("r", 0, (), None, None, (), False))
        self.assertEqual([hand.leads_to(name) for name in "xyu"], [0, 2, 1])
        self.assertEqual([hand.sheet_of(name) for name in "xyu"], [(None, None), (None, None), (None,)])
        self.assertEqual(machine.turns_made, ((0, START),))
        for value in ODD_VALUES + ("z", "box", 0):
            self.assertEqual(error_of(hand.leads_to, value), ("NoSuch", value))
            self.assertEqual(error_of(hand.sheet_of, value), ("NoSuch", value))
        self.assertEqual((machine.step_at(0), machine.nexts_at(0), machine.wants(0)), (("take", "a", "g"), (1,), "a"))

    def test_several_names_may_start_at_one_object(self):
        machine = machine_after((0, ("start", "r", (2, 2, 1))), (0, ("go", None, 1)), (0, ("go", 0, 2)))
        self.assertEqual([machine.hand_at(0).leads_to(name) for name in "xyu"], [0, 2, 1])

    def test_a_hand_tells_of_one_moment(self):
        machine = machine_after((0, START))
        before = machine.hand_at(0)
        machine.attempt(TO_CALL[1:])
        after = machine.hand_at(0)
        self.assertEqual((before.point, before.guards, before.sheet_of("x")), (0, (), (None, None)))
        self.assertEqual((after.point, after.guards, after.sheet_of("x")), (5, (), (9, None)))


class RuleTest(unittest.TestCase):
    """Each rule alone, with an earlier one and with a later one."""

    def refuse(self, before, move, rule, hand=0, firsts=FIRSTS):
        machine = machine_after(*before, firsts=firsts)
        told = state_of(machine)
        self.assertEqual(error_of(machine.turn, hand, move), ("WrongMove", move, rule))
        self.assertEqual(state_of(machine), told)
        with self.assertRaises(Refused) as caught:
            machine.attempt([(hand, move)])
        self.assertEqual(caught.exception.position, 0)
        self.assertIsInstance(caught.exception.__cause__, WrongMove)

    def test_word_and_parts(self):
        for move in [("enter",), ("take",), ("leave", None, 1), ("want", "a"), ("back",), ("change", 0, "f", 1), ("skip",),
                     ("",), ("go",), ("go", None), ("go", None, 1, None), ("", None, 1), ("Go", None, 1)]:
            self.refuse([(0, START)], move, "word")
        for move in [("go", None, 6), ("take",), ("back",), ("leave", None, 6), ("enter", None), ("want", "a"), ("enter", 1)]:
            self.refuse(TO_CALL, move, "word")
        for move in [("go", None, 6), ("enter",), ("want",), ("want", "a", "b"), ("take", "a"), ("back", None), ("leave",),
                     ("leave", None), ("leave", None, 6, 6), ("change", 0, "f"), ("change", 0, "f", 1, 1)]:
            self.refuse(INSIDE, move, "word")
        for move in [("start",), ("start", "r"), ("start", "r", (0, 2, 1), 0), ("start", "none")]:
            self.refuse([(0, START)], move, "word", hand=1)

    def test_moves_that_are_none(self):
        for value in ODD_VALUES + ((None, None, 1), (["go"], None, 1), ((), None, 1)):
            self.refuse([(0, START)], value, "word")

    def test_when_a_hand_is_over(self):
        text = "kind k - n\nroutine r\ndone"
        machine = machine_after((0, ("start", "r", ())), (0, ("go", None, None)), house=House.read(text),
                                firsts=[("k", (1,))])
        self.assertEqual((machine.hand_at(0).over, machine.hand_at(0).point), (True, None))
        for move in [("go", None, None), ("enter",), ("take",), ("leave", None, None), ("go", None, 0)]:
            self.assertEqual(error_of(machine.turn, 0, move), ("WrongMove", move, "word"))
        self.assertEqual((machine.step_at(0), machine.nexts_at(0), machine.wants(0), machine.waits_for(0)),
                         (None, (), None, None))
        machine.turn(1, ("start", "r", ()))

    def test_routine(self):
        for value in ODD_VALUES + ("box", "fill", "R", 0):
            self.refuse([(0, START)], ("start", value, "wrong"), "routine", hand=1)

    def test_objects(self):
        for value in [value for value in ODD_VALUES] + [(0, 2), (0, 2, 1, 1), [0, 2], (0, 2, 2), (1, 2, 1), (0, 2, 3),
                      (-1, 2, 1), (0, 10 ** 40, 1), "021", (0, 2, True), (0, False, 1), {0: 0, 2: 2, 1: 1}]:
            self.refuse([], ("start", "r", value), "objects")
        for value in NO_NUMBERS:
            self.refuse([], ("start", "r", (0, value, 1)), "objects")
            self.refuse([], ("start", "r", [0, value, 1]), "objects")
        for value in [None, (0,), "x", 0]:
            self.refuse([], ("start", "s", value), "objects")

    def test_an_own_object_cannot_be_told(self):
        house = House.read("kind k - n\nroutine r x:k\ndo make x, put x\ndone")
        machine = machine_after((0, ("start", "r", (0,))), (0, ("go", None, 1)), house=house, firsts=[("k", (1,))])
        self.assertEqual(error_of(machine.turn, 1, ("start", "r", (1,))), ("WrongMove", ("start", "r", (1,)), "objects"))
        machine.turn(0, ("go", None, 2))
        machine.turn(1, ("start", "r", (1,)))
        self.assertEqual(machine.hand_at(1).leads_to("x"), 1)

    def test_inside(self):
        for value in ODD_VALUES + ("c", "box", 0):
            self.refuse(INSIDE, ("want", value), "inside")
        self.refuse(INSIDE, ("take",), "inside")
        self.refuse(INSIDE, ("back",), "inside")
        for value in ("a", "b", "", (), 0, False):
            self.refuse(INSIDE, ("leave", value, 6), "inside")
            self.refuse(INSIDE, ("leave", value, "wrong"), "inside")
        wanting = INSIDE + ((0, ("want", "b")),)
        for move in [("want", "a"), ("back",), ("change", 0, "f", 1), ("leave", None, 6)]:
            self.refuse(wanting, move, "inside")
        holding = wanting + ((0, ("take",)),)
        for move in [("want", "a"), ("leave", None, 6), ("leave", "b", 6), ("take",), ("change", 2, "f", 1)]:
            self.refuse(holding, move, "inside")

    def test_changes(self):
        for move in [(0, "g", 1), (1, "f", 1), (2, "f", 1), (3, "f", 1), (-1, "n", 1)]:
            self.refuse(INSIDE, ("change",) + move, "inside")
        for value in NO_NUMBERS:
            self.refuse(INSIDE, ("change", value, "f", 1), "inside")
            self.refuse(INSIDE, ("change", 0, "f", value), "inside")
        for value in ODD_VALUES + ("n", "h"):
            self.refuse(INSIDE, ("change", 0, value, 1), "inside")
        machine = machine_after(*INSIDE, (0, ("change", 0, "f", -7)), (0, ("change", 1, "n", 10 ** 59)), (0, ("want", "a")),
                                (0, ("take",)), (0, ("change", 2, "f", 0)))
        self.assertEqual([row[1] for row in machine.heap_now.object_rows], [(-7, 2), (10 ** 59,), (0, 5)])

    def test_next(self):
        for value in NO_NUMBERS + (-1, 0, 2, 10 ** 40):
            self.refuse([(0, START)], ("go", None, value), "next")
            self.refuse([(0, START)], ("go", "wrong", value), "next")
            self.refuse(INSIDE, ("leave", None, value), "next")
        self.refuse(INSIDE, ("leave", None, 5), "next")

    def test_next_at_forks_and_stops(self):
        house = House.read("kind k - n\nroutine r\neither\ndo skip\nclose\ndone")
        machine = machine_after((0, ("start", "r", ())), house=house, firsts=[("k", (1,))])
        for value in (None, 0, 3, True):
            self.assertEqual(error_of(machine.turn, 0, ("go", None, value)), ("WrongMove", ("go", None, value), "next"))
        machine.turn(0, ("go", None, 2))
        for value in NO_NUMBERS[1:] + (0, 3, 2):
            self.assertEqual(error_of(machine.turn, 0, ("go", None, value)), ("WrongMove", ("go", None, value), "next"))
        machine.turn(0, ("go", None, None))
        self.assertTrue(machine.hand_at(0).over)

    def test_answer(self):
        for value in NO_NUMBERS[1:] + (0, 1):
            self.refuse([(0, START)], ("go", value, 1), "answer")
            self.refuse(TO_WRITE + ((0, ("go", 9, 3)),), ("go", value, 4), "answer")
        for value in NO_NUMBERS + (2, 1, 3, -1, 10 ** 40):
            self.refuse(TO_FETCH, ("go", value, 2), "answer")
        for value in NO_NUMBERS:
            self.refuse(TO_WRITE, ("go", value, 3), "answer")
        for value in (0, -1, 10 ** 59):
            machine = machine_after(*TO_WRITE, (0, ("go", value, 3)))
            self.assertEqual(machine.heap_now.object_rows[0][1], (value, 2))

    def test_the_order_of_the_rules(self):
        self.refuse([(0, START)], ("enter", 7), "word")
        self.refuse([(0, START)], ("start", 7), "word", hand=1)
        self.refuse([(0, START)], ("start", "none", None), "routine", hand=1)
        self.refuse(INSIDE, ("leave", "a", 7), "inside")
        self.refuse(TO_FETCH, ("go", 2, 7), "next")
        self.refuse(TO_WRITE, ("go", None, None), "next")
        # An earlier rule beside later ones, for each pair of rules that one move can break.
        self.refuse([], ("start", "none", (0,), 0), "word")
        self.refuse([], ("start", "r", (0,), 0), "word")
        self.refuse([], ("start", "none", (0,)), "routine")
        self.refuse(INSIDE, ("want", "none", "b"), "word")
        self.refuse(INSIDE, ("take", "none"), "word")
        self.refuse(INSIDE, ("leave", "none"), "word")
        self.refuse(INSIDE, ("go", 7, 99), "word")
        self.refuse(TO_CALL, ("leave", "none", 99), "word")
        self.refuse(TO_CALL, ("go", 7, 99), "word")
        self.refuse(TO_WRITE, ("go", None, 99, 1), "word")
        self.refuse(INSIDE, ("leave", "b", 99), "inside")
        self.refuse(INSIDE, ("leave", None, 99), "next")
        self.refuse(TO_FETCH, ("go", 99, 99), "next")
        self.refuse(TO_FETCH, ("go", 99, 2), "answer")

    def test_waiting_comes_last(self):
        other = ((1, ("start", "s", ())), (1, ("go", None, 1)))
        machine = machine_after((0, START), (0, ("go", None, 1)), *other)
        told = state_of(machine)
        self.assertEqual(error_of(machine.turn, 1, ("go", None, 2)), ("MustWait", "a", 0))
        for move, rule in [(("take",), "word"), (("go", None, 1), "next"), (("go", 1, 2), "answer"), (("go", 1, 1), "next")]:
            self.assertEqual(error_of(machine.turn, 1, move), ("WrongMove", move, rule))
        self.assertEqual((machine.waits_for(1), machine.wants(1), state_of(machine)), (0, "a", told))
        self.assertEqual((machine.waits_for(0), machine.holder("a"), machine.holder("b")), (None, 0, 1))

    def test_waiting_inside_a_call(self):
        machine = machine_after(*INSIDE, (0, ("want", "b")), (1, ("start", "s", ())), (1, ("go", None, 1)))
        self.assertEqual(error_of(machine.turn, 0, ("take",)), ("MustWait", "b", 1))
        self.assertEqual(error_of(machine.turn, 0, ("take", 1)), ("WrongMove", ("take", 1), "word"))
        for move in [("back",), ("want", "b"), ("leave", None, 6), ("change", 0, "f", 1)]:
            self.assertEqual(error_of(machine.turn, 0, move), ("WrongMove", move, "inside"))
        self.assertEqual((machine.hand_at(0).stack, machine.hand_at(0).wanted), ((), "b"))

    def test_waiting_for_itself(self):
        house = House.read("lock a\nkind k - n\nbody b : +a\nroutine r\nwith take a\ndo call b, take a\nclose\ndone")
        machine = machine_after((0, ("start", "r", ())), (0, ("go", None, 1)), (0, ("enter",)), (0, ("want", "a")),
                                house=house, firsts=[("k", (1,))])
        self.assertEqual((machine.waits_for(0), machine.ring()), (0, (0,)))
        self.assertEqual(error_of(machine.turn, 0, ("take",)), ("MustWait", "a", 0))


class ChangeTest(unittest.TestCase):
    def test_a_call_and_its_guard(self):
        machine = machine_after(*INSIDE, (0, ("leave", None, 6)), (0, ("enter",)), (0, ("want", "b")), (0, ("take",)))
        hand = machine.hand_at(0)
        self.assertEqual((hand.stack, hand.wanted, hand.held, hand.guards), (("b",), None, ("b",), ()))
        machine.turn(0, ("leave", "b", 7))
        hand = machine.hand_at(0)
        self.assertEqual((hand.stack, hand.held, hand.guards, hand.point), (None, ("b",), (("h", "b"),), 7))
        self.assertEqual(machine.holder("b"), 0)

    def test_held_has_the_locks_of_the_guards_first(self):
        house = House.read("lock a\nlock b\nlock c\nkind k - n\nbody b2 : +a +b\nroutine r\nwith take c\ndo call b2\n"
                           "close\ndone")
        machine = machine_after((0, ("start", "r", ())), (0, ("go", None, 1)), (0, ("enter",)), (0, ("want", "b")),
                                (0, ("take",)), house=house, firsts=[("k", (1,))])
        self.assertEqual(machine.hand_at(0).held, ("c", "b"))
        self.assertEqual([machine.holder(lock) for lock in "abc"], [None, 0, 0])

    def test_shows_and_faults(self):
        machine = machine_after(*TO_CALL)
        self.assertEqual((machine.shows_made, machine.faults_made), (((0, None),), (("stale", 4, 0, 3),)))
        machine = machine_after(*INSIDE)
        self.assertEqual(machine.faults_made, (("stale", 4, 0, 3), ("bare", 6, 0, 5)))

    def test_a_hand_that_is_over_leads_where_it_led(self):
        house = House.read("lock a\nkind k a n\nroutine r x:k\ndo take a as g, make x, write x n\ndone")
        turns = [(0, ("start", "r", (0,))), (0, ("go", None, 1)), (0, ("go", None, 2)), (0, ("go", 5, 3)),
                 (0, ("go", None, 4)), (0, ("go", None, None))]
        machine = machine_after(*turns, house=house, firsts=[("k", (1,))])
        hand = machine.hand_at(0)
        self.assertEqual((hand.over, hand.held, hand.leads_to("x"), hand.sheet_of("x")), (True, (), 1, (5,)))
        self.assertEqual(machine.heap_now.object_rows[1], ("k", (5,), 0))

    def test_a_stop_ends_the_guard_that_is_handed_back(self):
        house = House.read("lock a\nkind k - n\nroutine r\ndo take a as g\ngive g\ndone")
        machine = machine_after((0, ("start", "r", ())), (0, ("go", None, 1)), house=house, firsts=[("k", (1,))])
        self.assertEqual((machine.step_at(0), machine.holder("a")), (("stop", "g"), 0))
        machine.turn(0, ("go", None, None))
        self.assertEqual((machine.hand_at(0).guards, machine.holder("a")), ((), None))


class AttemptTest(unittest.TestCase):
    def test_all_or_none(self):
        for wrap in (list, tuple):
            machine = Machine(HOUSE, FIRSTS)
            self.assertIsNone(machine.attempt(wrap(INSIDE)))
            self.assertEqual(machine.turns_made, INSIDE)
            self.assertIsNone(machine.attempt(wrap(())))
        for position, (hand, move) in enumerate(INSIDE):
            machine = Machine(HOUSE, FIRSTS)
            wrong = INSIDE[:position] + ((9, move),) + INSIDE[position:]
            self.assertEqual(error_of(machine.attempt, wrong), ("Refused", position))
            self.assertEqual(state_of(machine), state_of(Machine(HOUSE, FIRSTS)))

    def test_the_error_of_the_turn(self):
        machine = machine_after((0, START), (0, ("go", None, 1)), (1, ("start", "s", ())), (1, ("go", None, 1)))
        for turn, kind in [((1, ("go", None, 2)), MustWait), ((1, ("go", None, 1)), WrongMove), ((2, ("enter",)), NoHand)]:
            with self.assertRaises(Refused) as caught:
                machine.attempt([(0, ("go", 0, 2)), turn])
            self.assertIs(type(caught.exception.__cause__), kind)
            self.assertEqual(caught.exception.position, 1)
        self.assertEqual(machine.hand_at(0).point, 1)

    def test_duplicates(self):
        machine = machine_after(*TO_WRITE)
        told = state_of(machine)
        twin = machine.duplicate()
        self.assertIsInstance(twin, Machine)
        self.assertIs(twin.house, HOUSE)
        self.assertEqual(state_of(twin), told)
        twin.attempt([(0, ("go", 8, 3)), (1, ("start", "s", ()))])
        self.assertEqual(state_of(machine), told)
        other = state_of(twin)
        machine.attempt(INSIDE[3:])
        self.assertEqual(state_of(twin), other)
        self.assertEqual(state_of(machine), state_of(machine_after(*INSIDE)))
        third = twin.duplicate().duplicate()
        third.turn(2, ("start", "r", (0, 0, 1)))
        self.assertEqual((len(third), len(twin), len(machine)), (3, 2, 1))


    def test_a_list_that_is_emptied_later_changes_nothing(self):
        numbers = [1, 2]
        machine = Machine(HOUSE, [("box", numbers), ("bag", (3,)), ("box", (4, 5))])
        numbers.clear()
        machine.attempt(INSIDE)
        twin = machine.duplicate()
        twin.turn(0, ("leave", None, 6))
        self.assertEqual((state_of(machine), len(twin.turns_made)), (state_of(machine_after(*INSIDE)), len(INSIDE) + 1))


class RingTest(unittest.TestCase):
    HOUSE = House.read("lock a\nlock b\nlock c\nlock d\nkind k - n\n" + "\n".join(
        f"routine r{one}{two}\ndo take {one}, take {two}\ndone" for one, two in ("ab", "bc", "ca", "dd")))

    def machine(self, *names):
        machine = Machine(self.HOUSE, [("k", (0,))])
        for hand, name in enumerate(names):
            machine.turn(hand, ("start", name, ()))
            if machine.waits_for(hand) is None:
                machine.turn(hand, ("go", None, 1))
        return machine

    def test_rings(self):
        self.assertEqual(self.machine("rab", "rbc").ring(), ())
        self.assertEqual(self.machine("rab", "rbc", "rca").ring(), (0, 1, 2))
        self.assertEqual(self.machine("rca", "rbc", "rab").ring(), (0, 2, 1))
        self.assertEqual(self.machine("rdd", "rab", "rbc", "rca").ring(), (0,))
        self.assertEqual(self.machine("rab", "rdd", "rbc", "rca").ring(), (0, 2, 3))
        self.assertEqual(self.machine("rab", "rdd").ring(), (1,))
        # A hand that waits for a ring is not in it.
        self.assertEqual(self.machine("rab", "rab", "rbc", "rca").ring(), (0, 2, 3))
        self.assertEqual(self.machine("rdd", "rdd").ring(), (0,))
        self.assertEqual(self.machine().ring(), ())


class OracleTest(unittest.TestCase):
    def check(self, machine, floor):
        self.assertEqual(len(machine), len(floor.hands))
        self.assertEqual(machine.heap_now.object_rows, floor.rows())
        self.assertEqual(len(machine.heap_now), len(floor.objects))
        told = (machine.turns_made, machine.shows_made, machine.faults_made)
        self.assertEqual(told, (tuple(floor.turns), tuple(floor.shows), tuple(floor.faults)))
        for lock in floor.house.locks:
            self.assertEqual(machine.holder(lock), floor.holder(lock))
        self.assertEqual(machine.ring(), floor.ring())
        for number, one in enumerate(floor.hands):
            hand = machine.hand_at(number)
            stack = None if one["stack"] is None else tuple(one["stack"])
            self.assertEqual(
                (hand.routine, hand.point, hand.guards, hand.stack, hand.wanted, hand.held, hand.over),
                (one["routine"], one["point"], tuple(one["guards"]), stack, one["wanted"], tuple(floor.held(number)),
                 one["point"] is None))
            for name in one["leads"]:
                self.assertEqual(hand.leads_to(name), one["leads"][name])
                self.assertEqual(hand.sheet_of(name), floor.sheet(number, name))
            asked = [ask(number) for ask in (machine.step_at, machine.nexts_at, machine.wants, machine.waits_for)]
            self.assertEqual(asked, [floor.step(number), floor.nexts(number), floor.wants(number),
                                     floor.waits_for(number)])

    def walk(self, rng, house, seen):
        firsts = random_firsts(rng, house)
        machine, floor = Machine(house, firsts), Floor(house, firsts)
        mover = Mover(rng, floor)
        for at in range(60):
            hand, move = mover.turn()
            want = floor.refusal(hand, move)
            before = state_of(machine) if want else None
            self.assertEqual(error_of(machine.turn, hand, move), want, (hand, move))
            if want:
                self.assertEqual(state_of(machine), before)
                key = want[2] if want[0] == "WrongMove" else want[0]
            else:
                floor.make(hand, move)
                key = move[0]
            seen[key] = seen.get(key, 0) + 1
            if at % 7 == 0:
                self.check(machine, floor)
        self.check(machine, floor)
        for word, _, _, _ in machine.faults_made:
            seen[word] = seen.get(word, 0) + 1
        seen["ring"] = seen.get("ring", 0) + (machine.ring() != ())

    def test_random_turns(self):
        rng = random.Random(51)
        seen = {}
        houses = [House.read(text) for text in TEXTS] * 10
        houses += [random_house(seed, rows=7, routines=2) for seed in range(350)]
        for house in houses:
            self.walk(rng, house, seen)
        words = "start go enter want take back change leave word routine objects inside next answer NoHand MustWait"
        self.assertEqual(sorted(seen), sorted(words.split() + ["bare", "stale", "ring"]))
        self.assertGreater(min(seen.values()), 20)

    def test_no_refusal_depends_on_numbers(self):
        """[56]: with other numbers a weaving is a weaving again."""
        rng = random.Random(52)
        for seed in range(120):
            house = random_house(seed, rows=7, routines=2)
            firsts = random_firsts(rng, house)
            floor = Floor(house, firsts)
            mover = Mover(rng, floor)
            for _ in range(40):
                hand, move = mover.turn()
                if floor.refusal(hand, move) is None:
                    floor.make(hand, move)
            other = [(kind, tuple(rng.randint(-99, 99) for _ in numbers)) for kind, numbers in firsts]
            machine, twin = Machine(house, firsts), Machine(house, other)
            for hand, move in floor.turns:
                step = machine.step_at(hand) if hand < len(machine) else None
                machine.turn(hand, move)
                if move[0] == "change":
                    move = move[:3] + (rng.randint(-99, 99),)
                if move[0] == "go" and step[0] == "write":
                    move = ("go", rng.randint(-99, 99), move[2])
                twin.turn(hand, move)
            one, two = state_of(machine), state_of(twin)
            self.assertEqual([hand[:8] for hand in one[0]], [hand[:8] for hand in two[0]])
            bare = [[fault for fault in told[4] if fault[0] == "bare"] for told in (one, two)]
            self.assertEqual(*bare)

    def test_wrong_turns_in_attempts(self):
        rng = random.Random(53)
        refused = 0
        for seed in range(150):
            house = random_house(seed, rows=7, routines=2)
            firsts = random_firsts(rng, house)
            machine, floor = Machine(house, firsts), Floor(house, firsts)
            for _ in range(6):
                trial, turns, want = floor.copy(), [], None
                for at in range(rng.randint(0, 8)):
                    turns.append(Mover(rng, trial).turn(0.05))
                    if trial.refusal(*turns[-1]) is not None:
                        want = ("Refused", at)
                        break
                    trial.make(*turns[-1])
                turns += [(0, ("none",))] * (want is not None)
                self.assertEqual(error_of(machine.attempt, turns), want)
                refused += want is not None
                floor = trial if want is None else floor
                self.check(machine, floor)
        self.assertGreater(refused, 30)

    def test_a_refused_turn_raises_an_error_of_the_package(self):
        machine = machine_after((0, START))
        with self.assertRaises(HandsError):
            machine.turn(0, ("enter",))


if __name__ == "__main__":
    unittest.main()
