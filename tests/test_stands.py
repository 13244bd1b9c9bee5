"""[66], [67]: stands, their moves and takings, against a machine that makes them."""

import random
import unittest

from helpers import NO_NUMBERS, ODD_VALUES, TEXTS, THING, error_of
from random_houses import lock_house, random_house, random_path
from handsroom.answers import own_stacks, wishes
from handsroom.errors import BadPath, BadStand, NoSuch
from handsroom.holds import final_takings, taken_since
from handsroom.houses import House
from handsroom.lonetable import START, LoneTable
from handsroom.machine import Machine
from handsroom.nesting import house_nests
from handsroom.spreading import Spread
from handsroom.stands import Stand
from handsroom.standard import standard_firsts, standard_moves

TEXT = "\n".join([
    "lock a", "lock b", "lock c", "kind box a f", "body hit box : +b +c b>c box.f", "body lend : +a +b =a =b",
    "routine r x:box y:box", "with take a", "do fetch x y, call hit y", "close", "do call lend as g", "do take c", "done",
    "routine s", "done"])
HOUSE = House.read(TEXT)
SPREAD = Spread(HOUSE, "r")
A = ("0.0", "a")
TO_CALL = (START, (1, (A,)), (2, (A,)))
TO_LEND = TO_CALL + ((3, (A,)), (4, ()))
TO_TAKE = TO_LEND + ((5, (("g", "b"),)),)


def stand_of(nodes, **more):
    return Stand(HOUSE, "r", nodes, **more)


def locks_after(stand):
    """The locks that a hand holds behind each of the moves, made alone on a machine, and what it wants at last."""
    machine = Machine(stand.house, standard_firsts(stand.house))
    found = []
    for move in stand.moves:
        machine.turn(0, move)
        found.append(machine.hand_at(0).held)
    return found, machine


def random_stands(house, rng, many, longest=12):
    """Stands of a house: lone paths of it, and ways into the call at their end."""
    found = []
    for _ in range(many):
        name = rng.choice([routine.name for routine in house.routines])
        spread = Spread(house, name)
        nodes = random_path(rng, spread, rng.randint(0, longest))
        if rng.random() < 0.6:
            table = LoneTable(spread)
            chosen = [node for node in table.nodes if spread.points[node[0]].step[0] in ("call", "take")]
            nodes = table.path_to(rng.choice(chosen or table.nodes))
        point, guards = nodes[-1]
        step = spread.points[point].step
        stack = wanted = None
        if step[0] == "call" and rng.random() < 0.8:
            signature = house.signature_of(step[1])
            held = [lock for _, lock in guards]
            free = [one for one in own_stacks(signature) if not set(one) & set(held)]
            stack = rng.choice(free[1:] or free)
            wanted = rng.choice([None] + [lock for own, lock in wishes(signature) if own == stack])
        found.append(Stand(house, name, nodes, stack=stack, wanted=wanted))
    return found


class FieldsTest(unittest.TestCase):
    def test_a_stand_outside_of_calls(self):
        for wrap in (list, tuple):
            found = stand_of(wrap(TO_TAKE))
            self.assertIs(found.house, HOUSE)
            self.assertEqual((found.routine, found.nodes, found.stack, found.wanted), ("r", TO_TAKE, None, "c"))
            self.assertEqual((found.lock_stack, found.held, found.length), (("b",), ("b",), 5))
            self.assertEqual(found.moves, standard_moves(HOUSE, "r", TO_TAKE))
            self.assertEqual(found.moves, (
                ("start", "r", (0, 0)), ("go", None, 1), ("go", 1, 2), ("enter",), ("leave", None, 3), ("go", None, 4),
                ("enter",), ("want", "b"), ("take",), ("leave", "b", 5)))
            self.assertEqual(found.takings, ((1, "a"), (8, "b")))
            self.assertIsInstance(found.nodes, tuple)

    def test_a_stand_inside_a_call(self):
        for wrap in (list, tuple):
            found = stand_of(TO_CALL, stack=wrap(["b"]), wanted="c")
            self.assertEqual((found.stack, found.wanted), (("b",), "c"))
            self.assertEqual((found.lock_stack, found.held, found.length), (("a", "b"), ("a", "b"), 2))
            self.assertEqual(found.moves[3:], (("enter",), ("want", "b"), ("take",), ("want", "c")))
            self.assertEqual(found.takings, ((1, "a"), (5, "b")))
        found = stand_of(TO_CALL, stack=("b", "c"))
        self.assertEqual((found.stack, found.wanted, found.lock_stack), (("b", "c"), None, ("a", "b", "c")))
        self.assertEqual((found.moves[-2:], found.takings[-1]), ((("want", "c"), ("take",)), (7, "c")))

    def test_an_empty_own_stack(self):
        """The hand has entered the call then."""
        found = stand_of(TO_CALL, stack=())
        self.assertEqual((found.stack, found.wanted, found.moves[-1]), ((), None, ("enter",)))
        outside = stand_of(TO_CALL)
        self.assertEqual((outside.stack, outside.wanted, outside.moves), (None, None, found.moves[:-1]))
        wanting = stand_of(TO_CALL, stack=(), wanted="c")
        self.assertEqual((wanting.wanted, wanting.moves[-2:]), ("c", (("enter",), ("want", "c"))))

    def test_the_shortest_stand(self):
        found = Stand(HOUSE, "s", [START])
        self.assertEqual((found.moves, found.takings, found.lock_stack, found.length), ((("start", "s", ()),), (), (), 0))

    def test_the_order_of_lock_stack_and_held_set(self):
        house = House.read("lock a\nlock b\nkind k - n\nbody h : +a\nroutine r\nwith take b\ndo call h\nclose\ndone")
        found = Stand(house, "r", [START, (1, (("0.0", "b"),))], stack=("a",))
        self.assertEqual((found.lock_stack, found.held), (("b", "a"), ("a", "b")))

    def test_a_list_that_changes_later_changes_nothing(self):
        nodes, stack = list(TO_CALL), ["b"]
        found = stand_of(nodes, stack=stack)
        nodes.clear()
        stack.append("c")
        self.assertEqual((found.nodes, found.stack, found.lock_stack), (TO_CALL, ("b",), ("a", "b")))


class WrongTest(unittest.TestCase):
    def test_a_routine_that_is_not_there(self):
        for value in ODD_VALUES + ("x", "a", "hit"):
            self.assertEqual(error_of(Stand, HOUSE, value, [], stack=5, wanted=5), ("NoSuch", value))

    def test_a_path_that_is_wrong(self):
        for nodes, position in (([], 0), ([(1, ())], 0), (TO_CALL + (START,), 3), (TO_CALL[:1] + TO_CALL[2:], 1)):
            self.assertEqual(error_of(stand_of, nodes, stack="no", wanted=7), ("BadPath", position))
            self.assertEqual(error_of(stand_of, nodes), ("BadPath", position))
        for value in NO_NUMBERS + ODD_VALUES:
            self.assertEqual(error_of(stand_of, [START, value], wanted="a"), ("BadPath", 1))

    def test_a_stack_that_is_wrong(self):
        odd = [value for value in ODD_VALUES if value is not None and value not in ([], ())]
        wrong = [("a",), ("c", "b"), ("b", "b"), ("b", "c", "b"), ("x",), (None,), ("b", None), "b", {"b": 1}, 7, ["a"],
                 ("b", ["c"])]
        for value in wrong + odd:
            self.assertEqual(error_of(stand_of, TO_CALL, stack=value, wanted=THING), ("BadStand", "stack"), value)
            self.assertEqual(error_of(stand_of, TO_CALL, stack=value), ("BadStand", "stack"))
        # The last node is not at a call.
        for nodes in (TO_TAKE, TO_CALL[:1], TO_CALL[:2]):
            for value in ((), [], ("b",), ["b", "c"], 0):
                self.assertEqual(error_of(stand_of, nodes, stack=value, wanted="z"), ("BadStand", "stack"))

    def test_a_stack_with_a_lock_of_the_guards(self):
        house = House.read(TEXT.replace("with take a", "with take c"))
        nodes = [START, (1, (("0.0", "c"),)), (2, (("0.0", "c"),))]
        for stack in (("c",), ("b", "c")):
            self.assertEqual(error_of(Stand, house, "r", nodes, stack=stack), ("BadStand", "stack"))
        # Another lock may be wanted all the same, also one that the hand holds.
        found = Stand(house, "r", nodes, stack=("b",), wanted="c")
        self.assertEqual((found.lock_stack, found.wanted), (("c", "b"), "c"))

    def test_a_wanted_lock_that_is_wrong(self):
        for value in [value for value in ODD_VALUES if value is not None] + ["a", "b", "x", THING]:
            self.assertEqual(error_of(stand_of, TO_CALL, stack=("b",), wanted=value), ("BadStand", "wanted"), value)
            self.assertEqual(error_of(stand_of, TO_CALL, wanted=value), ("BadStand", "wanted"))
            self.assertEqual(error_of(stand_of, TO_CALL, stack=("b", "c"), wanted=value), ("BadStand", "wanted"))
        # Not beside a take either: there is no stack.
        self.assertEqual(error_of(stand_of, TO_TAKE, wanted="c"), ("BadStand", "wanted"))
        self.assertEqual(error_of(stand_of, TO_CALL, stack=["b"], wanted="a"), ("BadStand", "wanted"))

    def test_classes_of_errors(self):
        for call, error in ((lambda: Stand(HOUSE, "x", []), NoSuch), (lambda: stand_of([]), BadPath),
                            (lambda: stand_of(TO_CALL, stack=3), BadStand)):
            with self.assertRaises(error):
                call()


class MachineTest(unittest.TestCase):
    def houses(self):
        found = [House.read(text) for text in TEXTS]
        found += [lock_house(seed, rows=5, locks=4) for seed in range(120)]
        return found + [random_house(seed, rows=6, names=4, routines=2) for seed in range(80)]

    def test_what_a_hand_holds_and_wants_behind_the_moves(self):
        rng, calls, takes = random.Random(66), 0, 0
        for house in self.houses():
            for stand in random_stands(house, rng, 8):
                held, machine = locks_after(stand)
                state = machine.hand_at(0)
                self.assertEqual(state.held, stand.lock_stack)
                self.assertEqual(machine.wants(0), stand.wanted)
                self.assertEqual((state.point, state.guards), stand.nodes[-1])
                self.assertEqual((state.stack, state.stack is None), (stand.stack, stand.stack is None))
                self.assertEqual(stand.held, tuple(lock for lock in house.locks if lock in stand.lock_stack))
                self.assertEqual(stand.length, len([move for move in stand.moves if move[0] in ("go", "leave")]))
                self.check_takings(stand, held)
                calls += stand.stack not in (None, ())
                takes += len(stand.takings)
        self.assertGreater(calls, 100)
        self.assertGreater(takes, 500)

    def check_takings(self, stand, held):
        before = [()] + held[:-1]
        found = []
        for index, locks in enumerate(held):
            found += [(index, lock) for lock in locks if lock not in before[index]]
        self.assertEqual(stand.takings, tuple(found))
        finals, since = final_takings(stand), taken_since(stand)
        self.assertEqual([lock for lock, _ in finals], list(stand.lock_stack))
        self.assertEqual([lock for lock, _ in since], list(stand.lock_stack))
        for (lock, final), (_, later) in zip(finals, since):
            self.assertEqual(final, max(index for index, one in found if one == lock))
            self.assertEqual(later, tuple(one for one in stand.house.locks
                                          if any(index > final and other == one for index, other in found)))

    def test_final_takings_in_a_house_that_nests(self):
        """Just before the final taking of a lock the hand holds exactly the locks that precede it in the stack."""
        rng, checked = random.Random(67), 0
        for house in self.houses():
            if house_nests(house):
                for stand in random_stands(house, rng, 6):
                    held, _ = locks_after(stand)
                    for at, (_, final) in enumerate(final_takings(stand)):
                        self.assertEqual(held[final - 1], stand.lock_stack[:at])
                        checked += at > 0
        self.assertGreater(checked, 60)


class HoldsTest(unittest.TestCase):
    def test_locks_taken_several_times(self):
        house = House.read("lock a\nlock b\nlock c\nkind k - n\nbody lend : +c =c\nroutine r\ndo take b\ndo take c as g\n"
                           "do take b\ndo take a\ndo take a as h\ndo call lend, take b\ndone")
        spread = Spread(house, "r")
        table = LoneTable(spread)
        nodes = table.path_to([node for node in table.nodes if node[0] == spread.first_point(5)][0])
        stand = Stand(house, "r", nodes)
        self.assertEqual([lock for _, lock in stand.takings], ["b", "c", "b", "a", "a"])
        index = [index for index, _ in stand.takings]
        self.assertEqual(final_takings(stand), (("c", index[1]), ("a", index[4])))
        self.assertEqual(taken_since(stand), (("c", ("a", "b")), ("a", ())))

    def test_nothing_is_held(self):
        stand = stand_of(TO_LEND)
        self.assertEqual((final_takings(stand), taken_since(stand)), ((), ()))
        self.assertEqual(stand.takings, ((1, "a"),))


if __name__ == "__main__":
    unittest.main()
