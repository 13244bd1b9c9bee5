"""[59], [60]: leaving hands out of a weaving and conflicts of two turns, against the machine itself."""

import random
import unittest

from floor_oracle import Floor, Mover, random_firsts
from helpers import NO_NUMBERS, TEXTS, error_of
from random_houses import SHARE_WORDS, busy_house
from test_machine import FIRSTS, HOUSE, INSIDE, machine_after, state_of
from handsroom.houses import House
from handsroom.machine import Machine
from handsroom.replay import length_of, replay
from handsroom.weavings import conflict_of, leave_out

HEAD = "lock a\nkind k a n m\nkind j - n\nbody hit k : +a k.n j.n\nbody lay k* :\nbody lend : +a =a\n"
JOINT = (("k", (1, 2)), ("j", (3,)))


def house_of(**routines):
    """A house with these routines; each is told as its object names and its rows."""
    lines = [f"routine {name} {told[0]}".strip() + "\n" + "\n".join(told[1:] + ("done",)) for name, told in routines.items()]
    return House.read(HEAD + "\n".join(lines))


class Changer(Mover):
    """Random moves whose numbers are all different from one another and from 0."""

    def __init__(self, rng, floor, last):
        super().__init__(rng, floor)
        self.last = last

    def one_of(self, objects):
        """Often the object that was made last."""
        return objects[-1] if self.rng.random() < 0.7 else super().one_of(objects)

    def turn(self, wrong=0.0):
        return self.changed(*super().turn(wrong))

    def changed(self, hand, move):
        """The turn with a new number, if it writes or changes one."""
        self.last += 1
        if move[0] == "change":
            return hand, move[:3] + (self.last,)
        step = self.floor.step(hand) if move[0] == "go" else None
        if step is not None and step[0] == "write":
            return hand, ("go", self.last, move[2])
        return hand, move


def woven(rng, house, many):
    """The pair (first objects, turns) of a random weaving whose numbers are all different and not 0."""
    last = 0
    firsts = []
    for kind, numbers in random_firsts(rng, house, 2):
        firsts.append((kind, tuple(range(last + 1, last + 1 + len(numbers)))))
        last += len(numbers)
    floor = Floor(house, firsts)
    mover = Changer(rng, floor, last)
    for _ in range(many):
        hand, move = mover.turn()
        if floor.refusal(hand, move) is None:
            floor.make(hand, move)
    return firsts, tuple(floor.turns)


class LeaveOutTest(unittest.TestCase):
    HOUSE = house_of(r=("x:k y:j", "do make x, put x, make y, put y", "do write x n"),
                     s=("u:k", "do fetch u, read u n, call hit u"), t=("v:k w:j", "do skip"))
    FIRSTS = [("k", [1, 2]), ("j", (3,))]
    TURNS = ((0, ("start", "r", (0, 1))), (0, ("go", None, 1)), (0, ("go", None, 2)), (0, ("go", None, 3)),
             (0, ("go", None, 4)), (1, ("start", "s", (0,))), (1, ("go", 2, 1)), (1, ("go", None, 2)),
             (2, ("start", "t", (2, 3))), (1, ("enter",)), (1, ("change", 3, "n", 8)), (1, ("change", 2, "n", 9)))

    def test_nobody(self):
        for none in ([], ()):
            self.assertEqual(leave_out(self.HOUSE, self.FIRSTS, self.TURNS, none),
                             ((("k", (1, 2)), ("j", (3,))), self.TURNS))

    def test_needed_objects(self):
        firsts, turns = leave_out(self.HOUSE, self.FIRSTS, list(self.TURNS), [0])
        # What hand 0 made is named by the others, so it is there from the first.
        self.assertEqual(firsts, (("k", (1, 2)), ("j", (3,)), ("k", (0, 0)), ("j", (0,))))
        self.assertEqual(turns, (
            (0, ("start", "s", (0,))), (0, ("go", 2, 1)), (0, ("go", None, 2)), (1, ("start", "t", (2, 3))), (0, ("enter",)),
            (0, ("change", 3, "n", 8)), (0, ("change", 2, "n", 9))))
        replay(self.HOUSE, firsts, turns)

    def test_only_what_is_named_is_needed(self):
        self.assertEqual(leave_out(self.HOUSE, self.FIRSTS, self.TURNS[:8], (0,))[0],
                         (("k", (1, 2)), ("j", (3,)), ("k", (0, 0))))
        firsts, turns = leave_out(self.HOUSE, self.FIRSTS, self.TURNS[:9], (1, 0))
        self.assertEqual((len(firsts), turns), (4, ((0, ("start", "t", (2, 3))),)))

    def test_a_hand_in_the_middle(self):
        firsts, turns = leave_out(self.HOUSE, tuple(self.FIRSTS), self.TURNS, (1, 1))
        self.assertEqual((firsts, turns[-1]), ((("k", (1, 2)), ("j", (3,))), (1, ("start", "t", (2, 3)))))
        self.assertEqual(length_of(turns), 4)

    def test_everybody(self):
        for hands in ((0, 1, 2), [2, 0, 1, 0]):
            self.assertEqual(leave_out(self.HOUSE, self.FIRSTS, self.TURNS, hands), ((("k", (1, 2)), ("j", (3,))), ()))

    def test_what_staying_hands_make_is_numbered_behind(self):
        house = house_of(r=("x:k", "do make x, put x"), s=("x:k", "do make x, put x", "do fetch x"), t=("x:k", "do fetch x"))
        turns = ((0, ("start", "s", (0,))), (0, ("go", None, 1)), (1, ("start", "r", (0,))), (1, ("go", None, 1)),
                 (0, ("go", None, 2)), (1, ("go", None, 2)), (2, ("start", "t", (2,))), (2, ("go", 3, 1)), (0, ("go", 3, 3)),
                 (2, ("go", None, None)), (3, ("start", "r", (3,))))
        firsts, left = leave_out(house, JOINT, turns, [1])
        self.assertEqual(firsts, JOINT + (("k", (0, 0)),))
        self.assertEqual(left, (
            (0, ("start", "s", (0,))), (0, ("go", None, 1)), (0, ("go", None, 2)), (1, ("start", "t", (3,))), (1, ("go", 2, 1)),
            (0, ("go", 2, 3)), (1, ("go", None, None)), (2, ("start", "r", (2,)))))
        replay(house, firsts, left)

    def test_start_objects_may_be_a_list(self):
        turns = [(0, ("start", "t", [0, 1])), (1, ("start", "t", [0, 1]))]
        self.assertEqual(leave_out(self.HOUSE, JOINT, turns, [0])[1], ((0, ("start", "t", (0, 1))),))
        self.assertEqual(turns[1][1][2], [0, 1])

    def test_errors(self):
        for value in NO_NUMBERS + (3, -1, 10 ** 40):
            self.assertEqual(error_of(leave_out, self.HOUSE, self.FIRSTS, self.TURNS, [0, value, "none"]), ("NoHand", value))
        self.assertEqual(error_of(leave_out, self.HOUSE, self.FIRSTS, (), [0]), ("NoHand", 0))
        self.assertEqual(leave_out(self.HOUSE, self.FIRSTS, (), []), ((("k", (1, 2)), ("j", (3,))), ()))
        wrong = self.TURNS[:3] + ((0, ("enter",)),) + self.TURNS[3:]
        self.assertEqual(error_of(leave_out, self.HOUSE, self.FIRSTS, wrong, [9]), ("Refused", 3))
        self.assertEqual(error_of(leave_out, self.HOUSE, [("none", ())], wrong, [9]), ("NoSuch", "none"))
        self.assertEqual(error_of(leave_out, self.HOUSE, [("k", (1,))], wrong, [9]), ("WrongFirst", 0))
        self.assertEqual(error_of(leave_out, self.HOUSE, self.FIRSTS[:1], wrong, [9]), ("NoFirst", "j"))


class Follower:
    """A weaving and what is left of it, side by side."""

    def __init__(self, test, house, told, left, gone):
        self.test = test
        self.gone = gone
        self.whole, self.part = Machine(house, told[0]), Machine(house, left[0])
        self.turns, self.rest = told[1], list(left[1])
        self.numbers = {number: number for number in range(len(told[0]))}
        self.needed = list(range(len(told[0]), len(left[0])))
        self.staying = []
        # The hand that wrote or changed each number last.
        self.writers = {}

    def follow(self):
        """Makes all turns; new first objects stand for what is needed in ascending order."""
        made = {}
        for hand, move in self.turns:
            before = len(self.whole.heap_now)
            step = self.whole.step_at(hand) if move[0] != "start" else ("",)
            faults = [len(one.faults_made) for one in (self.whole, self.part)]
            shows = [len(one.shows_made) for one in (self.whole, self.part)]
            state = self.whole.hand_at(hand) if move[0] != "start" else None
            writer = None
            if step[0] == "keep":
                writer = self.writers.get((state.leads_to(step[1]), step[2]))
            self.whole.turn(hand, move)
            if hand in self.gone:
                for number in range(before, len(self.whole.heap_now)):
                    made[number] = True
                self.note_writer(hand, move, step, state)
                continue
            if hand not in self.staying:
                self.staying.append(hand)
            for number in self.named(step, move):
                if number in made and number not in self.numbers:
                    self.numbers[number] = None
            self.part.turn(*self.expected(hand, step, move))
            for number in range(before, len(self.whole.heap_now)):
                self.numbers[number] = len(self.part.heap_now) - 1
            self.compare(hand, faults, shows, writer)
            self.note_writer(hand, move, step, state)
        self.test.assertEqual(self.rest, [])

    def note_writer(self, hand, move, step, state):
        if move[0] == "change":
            self.writers[move[1], move[2]] = hand
        if move[0] == "go" and step[0] == "write":
            self.writers[state.leads_to(step[1]), step[2]] = hand

    def named(self, step, move):
        if move[0] == "start":
            return move[2]
        return [move[1]] if move[0] == "change" or move[0] == "go" and step[0] == "fetch" else []

    def expected(self, hand, step, move):
        """The next turn that is left, which must be the given one with other numbers of objects."""
        found_hand, found = self.rest.pop(0)
        self.test.assertEqual(found_hand, self.staying.index(hand))
        told = self.named(step, move)
        for given, number in zip(told, self.named(step, found)):
            if self.numbers[given] is None:
                self.test.assertIn(number, self.needed)
                self.numbers[given] = number
            self.test.assertEqual(self.numbers[given], number)
        plain = [one if one[0] != "start" else one[:2] for one in (move, found)]
        if told:
            plain = [one[:1] + one[2:] for one in plain]
        self.test.assertEqual(*plain)
        return found_hand, found

    def compare(self, hand, faults, shows, writer):
        state, other = self.whole.hand_at(hand), self.part.hand_at(self.staying.index(hand))
        fields = ("routine", "point", "guards", "stack", "wanted", "held", "over")
        self.test.assertEqual([getattr(state, name) for name in fields], [getattr(other, name) for name in fields])
        for name, _ in self.whole.house.routine_of(state.routine).names:
            self.test.assertEqual(self.numbers[state.leads_to(name)], other.leads_to(name))
            nothing = [[number is None for number in one.sheet_of(name)] for one in (state, other)]
            self.test.assertEqual(*nothing)
        words = [[fault[0] for fault in one.faults_made[many:]] for one, many in zip((self.whole, self.part), faults)]
        self.test.assertEqual(*[["bare"] if "bare" in told else [] for told in words])
        if "stale" in words[1]:
            self.test.assertIn("stale", words[0])
        if "stale" in words[0]:
            shown = self.whole.shows_made[shows[0]][1]
            if shown is None or writer is not None and writer not in self.gone:
                self.test.assertIn("stale", words[1])
            self.test.seen["stale"] = self.test.seen.get("stale", 0) + 1
        self.test.seen["turn"] = self.test.seen.get("turn", 0) + 1


class LeaveOutOracleTest(unittest.TestCase):
    def test_random_weavings(self):
        rng = random.Random(59)
        self.seen = {"needed": 0}
        houses = [House.read(text) for text in TEXTS] * 10 + [busy_house(seed, rows=7, names=3) for seed in range(150)]
        houses += [busy_house(seed, rows=8, names=3, words=SHARE_WORDS) for seed in range(400)]
        for house in houses:
            firsts, turns = woven(rng, house, 70)
            hands = sorted({hand for hand, _ in turns})
            gone = [hand for hand in hands if rng.random() < 0.4]
            rng.shuffle(gone)
            left = leave_out(house, firsts, turns, gone)
            self.assertEqual(left[0][:len(firsts)], tuple(firsts))
            self.assertTrue(all(set(numbers) == {0} for _, numbers in left[0][len(firsts):]))
            replay(house, *left)
            follower = Follower(self, house, (firsts, turns), left, gone)
            follower.follow()
            # Each new first object is needed, and they come in the order of the objects that they stand for.
            stand = [number for given, number in sorted(follower.numbers.items()) if number in follower.needed]
            self.assertEqual(stand, follower.needed)
            for given, number in follower.numbers.items():
                self.assertEqual(follower.whole.heap_now.object_rows[given][0], left[0][number][0]
                                 if number < len(left[0]) else follower.part.heap_now.object_rows[number][0])
            self.seen["needed"] += len(stand)
        self.assertGreater(min(self.seen[key] for key in ("turn", "stale", "needed")), 20)


class ConflictTest(unittest.TestCase):
    def conflict(self, house, ahead, first, second, firsts=JOINT):
        machine = replay(house, firsts, ahead)
        told = state_of(machine)
        found = conflict_of(machine, first, second)
        self.assertEqual(state_of(machine), told)
        return found

    def test_turns_of_one_hand(self):
        house = house_of(r=("", "do skip, skip"))
        start = (0, ("start", "r", ()))
        self.assertEqual(self.conflict(house, [], start, (0, ("go", None, 1))), "hand")
        self.assertEqual(self.conflict(house, [start], (0, ("go", None, 1)), (0, ("go", None, 2))), "hand")

    def test_starts_and_makes(self):
        house = house_of(r=("x:k", "do make x"), s=("x:k", "do skip"))
        starts = [(hand, ("start", "r", (0,))) for hand in range(3)]
        self.assertEqual(self.conflict(house, [], starts[0], starts[1]), "start")
        makes = [(hand, ("go", None, 1)) for hand in range(3)]
        self.assertEqual(self.conflict(house, starts, makes[2], makes[0]), "make")
        self.assertIsNone(self.conflict(house, starts[:1], makes[0], starts[1]))
        self.assertIsNone(self.conflict(house, starts[:1], (1, ("start", "s", (0,))), makes[0]))

    def test_locks(self):
        house = house_of(r=("", "do take a"), s=("", "do call lend as g"), t=("", "with call lend", "close"), o=("", "do skip"))
        starts = [(hand, ("start", name, ())) for hand, name in enumerate("rrsto")]
        held = starts + [(0, ("go", None, 1))]
        drop = (0, ("go", None, 2))
        self.assertEqual(self.conflict(house, held, drop, (1, ("go", None, 1))), "lock")
        wanting = held + [(2, ("enter",)), (2, ("want", "a"))]
        self.assertEqual(self.conflict(house, wanting, drop, (2, ("take",))), "lock")
        self.assertIsNone(self.conflict(house, held, drop, (4, ("go", None, 1))))
        inside = starts + [(2, ("enter",)), (2, ("want", "a")), (2, ("take",))]
        self.assertEqual(self.conflict(house, inside, (2, ("back",)), (1, ("go", None, 1))), "lock")
        # A lock that a leave hands back stays with the hand.
        self.assertIsNone(self.conflict(house, inside, (2, ("leave", "a", 1)), (4, ("go", None, 1))))

    def test_a_stop_gives_a_lock_back(self):
        house = house_of(r=("", "do take a as g", "give g"), s=("", "do take a"))
        turns = [(0, ("start", "r", ())), (1, ("start", "s", ())), (0, ("go", None, 1))]
        self.assertEqual(self.conflict(house, turns, (0, ("go", None, None)), (1, ("go", None, 1))), "lock")

    def test_objects(self):
        house = house_of(r=("x:k", "do make x, put x"), s=("x:k", "do make x, call lay x"), t=("u:k", "do fetch u, call hit u"))
        own = [(0, ("start", "r", (0,))), (0, ("go", None, 1)), (1, ("start", "t", (0,)))]
        put = (0, ("go", None, 2))
        self.assertEqual(self.conflict(house, own, put, (1, ("go", 2, 1))), "object")
        self.assertIsNone(self.conflict(house, own, put, (1, ("go", 0, 1))))
        self.assertEqual(self.conflict(house, own, put, (2, ("start", "t", (2,)))), "object")
        self.assertIsNone(self.conflict(house, own, put, (2, ("start", "t", (0,)))))
        laid = [(0, ("start", "s", (0,))), (0, ("go", None, 1)), (1, ("start", "t", (0,))), (0, ("enter",))]
        self.assertEqual(self.conflict(house, laid, (0, ("leave", None, 2)), (1, ("go", 2, 1))), "object")
        inside = own + [(1, ("go", 0, 1)), (1, ("enter",)), (1, ("want", "a")), (1, ("take",))]
        self.assertEqual(self.conflict(house, inside, put, (1, ("change", 2, "n", 9))), "object")
        self.assertIsNone(self.conflict(house, inside, put, (1, ("change", 0, "n", 9))))

    def test_an_object_that_is_shared_already(self):
        house = house_of(r=("x:k", "do put x"), t=("u:k", "do fetch u"))
        turns = [(0, ("start", "r", (0,))), (1, ("start", "t", (0,)))]
        self.assertIsNone(self.conflict(house, turns, (0, ("go", None, 1)), (1, ("go", 0, 1))))

    def test_numbers(self):
        house = house_of(r=("x:k y:j", "do read x n, write x n, write x m, keep x n, read y n, call hit x"))
        steps = [("go", None, 1), ("go", 10, 2), ("go", 11, 3), ("go", None, 4), ("go", None, 5), ("enter",)]
        turns = []
        for hand, at in enumerate((0, 0, 1, 1, 2, 3, 6, 4)):
            turns += [(hand, ("start", "r", (0, 1)))] + [(hand, move) for move in steps[:at]]
        inside = turns
        read, other, keep = (0, ("go", None, 1)), (1, ("go", None, 1)), (5, ("go", None, 4))
        write, again, mark = (2, ("go", 7, 2)), (3, ("go", 8, 2)), (4, ("go", 9, 3))
        change, second = (6, ("change", 0, "n", 5)), (7, ("go", None, 5))
        for one, two, reason in [(read, other, None), (read, write, "number"), (write, again, "number"), (write, mark, None),
                                 (read, mark, None), (change, read, "number"), (change, write, "number"), (change, mark, None),
                                 (keep, write, None), (keep, change, None), (keep, read, None), (change, second, None)]:
            self.assertEqual(self.conflict(house, inside, one, two), reason, (one, two))
            self.assertEqual(self.conflict(house, inside, two, one), reason, (two, one))

    def test_the_first_reason(self):
        """A turn that shares an object by a leave and one that reads: only "object" holds, and so on."""
        house = house_of(r=("x:k", "do make x, put x"), s=("x:k", "do make x"))
        turns = [(0, ("start", "r", (0,))), (1, ("start", "s", (0,)))]
        self.assertEqual(self.conflict(house, turns, (0, ("go", None, 1)), (1, ("go", None, 1))), "make")

    def test_errors(self):
        machine = machine_after(*INSIDE)
        told = state_of(machine)
        good = (1, ("start", "s", ()))
        for first, second, position in [((9, ("enter",)), good, 0), (good, (0, ("enter",)), 1), (good, (2, ("take",)), 1),
                                        ((0, ("take",)), (9, ("enter",)), 0), (good, good, 1)]:
            self.assertEqual(error_of(conflict_of, machine, first, second), ("Refused", position))
            self.assertEqual(state_of(machine), told)
        self.assertIsNone(conflict_of(machine, good, (0, ("want", "b"))))
        self.assertEqual(len(FIRSTS), len(HOUSE.kinds) + 1)


class ConflictOracleTest(unittest.TestCase):
    def after(self, machine, *turns):
        """What a machine tells behind some turns, and for each of them its shows and faults; None if one is refused."""
        trial = machine.duplicate()
        told = {}
        for turn in turns:
            many = (len(trial.shows_made), len(trial.faults_made))
            if error_of(trial.turn, *turn) is not None:
                return None
            faults = [fault[0] for fault in trial.faults_made[many[1]:]]
            told[turn] = (trial.shows_made[many[0]:], faults)
        return state_of(trial)[:2], told

    def is_stale_only(self, machine, one, two, found):
        """True if turns differ only in a keep that is stale in one order, whose number the other one wrote or changed."""
        first, second = found
        if first[0] != second[0]:
            return False
        for turn, other in ((one, two), (two, one)):
            if first[1][turn] == second[1][turn]:
                continue
            step = machine.step_at(turn[0]) if turn[0] < len(machine) else None
            if step is None or step[0] != "keep" or first[1][turn][0] != second[1][turn][0]:
                return False
            if sorted([first[1][turn][1], second[1][turn][1]]) != [[], ["stale"]]:
                return False
            hand = machine.hand_at(turn[0])
            number = (hand.leads_to(step[1]), step[2])
            if number != self.written(machine, other):
                return False
        return True

    def written(self, machine, turn):
        hand, move = turn
        if move[0] == "change":
            return move[1], move[2]
        step = machine.step_at(hand)
        return (machine.hand_at(hand).leads_to(step[1]), step[2]) if step and step[0] == "write" else None

    def possible(self, rng, floor, last):
        """A turn of each hand that can make one, and a start, with numbers behind a last one."""
        found = []
        for hand in range(len(floor.hands) + 1):
            mover = Changer(rng, floor, last + hand)
            hand, move = mover.changed(hand, mover.move(hand))
            if floor.refusal(hand, move) is None:
                found.append((hand, move[:2] + (tuple(move[2]),) if move[0] == "start" else move))
        return found

    def check_pairs(self, rng, machine, floor, seen):
        for first in self.possible(rng, floor, 10 ** 6):
            trial = floor.copy()
            trial.make(*first)
            for second in self.possible(rng, trial, 10 ** 7):
                if first[0] != second[0]:
                    self.check(machine, first, second, seen)

    def check(self, machine, first, second, seen):
        found = conflict_of(machine, first, second)
        seen[found] = seen.get(found, 0) + 1
        both = (self.after(machine, first, second), self.after(machine, second, first))
        same = both[1] is not None and self.is_stale_only(machine, first, second, both)
        self.assertIs(found is None, same, (machine.house.text(), machine.turns_made, first, second, found))

    def test_exchanging_turns(self):
        """Just if there is no conflict the two turns can be made the other way round, and do the same."""
        rng = random.Random(60)
        seen = {}
        houses = [House.read(text) for text in TEXTS] * 12 + [busy_house(seed, rows=7, names=3) for seed in range(160)]
        houses += [busy_house(seed, rows=8, names=3, words=SHARE_WORDS) for seed in range(160)]
        for house in houses:
            firsts, turns = woven(rng, house, 50)
            machine, floor = Machine(house, firsts), Floor(house, firsts)
            for at, (hand, move) in enumerate(turns):
                if at % 4 == 0:
                    self.check_pairs(rng, machine, floor, seen)
                machine.turn(hand, move)
                floor.make(hand, move)
        self.assertEqual(sorted(map(str, seen)), ["None", "lock", "make", "number", "object", "start"])
        self.assertGreater(min(seen.values()), 8)


if __name__ == "__main__":
    unittest.main()
