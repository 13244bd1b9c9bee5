"""[75]: weavings along ways of products, replayed by machines."""

import random
import unittest

from helpers import ODD_VALUES, TEXTS, error_of
from pair_oracle import FIRST, OVER, pairs_of
from random_houses import busy_house, random_house
from handsroom.errors import TooLarge
from handsroom.houses import House
from handsroom.machine import Machine
from handsroom.products import Product
from handsroom.replay import length_of, replay
from handsroom.shown import weaving_along

TEXT = "\n".join([
    "lock a", "kind box a n", "body hit : +a box.n", "body pass box : box.n", "body lend : +a =a",
    "routine r x:box y:box", "do read x n, keep x n", "done",
    "routine w u:box", "do call hit, call pass u, call lend as g", "done"])
HOUSE = House.read(TEXT)


def first_with(product, mark):
    """A shortest way to a state with this mark."""
    return next(product.way_to(state) for state in product.states if state[3] == mark)


def keeper_of(way):
    """The number of the keeper's hand, and that of the other one."""
    started = [[state[hand][0] is not None for state in way].index(True) if way[-1][hand][0] is not None else len(way)
               for hand in (0, 1)]
    return (0, 1) if started[0] < started[1] else (1, 0)


def step_length(product, one, two):
    return [length for _, length, after in product.steps_at(one) if after == two][0]


class WayTest(unittest.TestCase):
    def check(self, product, way):
        firsts, turns = weaving_along(product, way)
        self.assertIsInstance(firsts, tuple)
        self.assertIsInstance(turns, tuple)
        machine = replay(product.house, firsts, turns)
        self.assertEqual(machine.turns_made, turns)
        self.assertEqual(length_of(turns), sum(step_length(product, one, two) for one, two in zip(way, way[1:])))
        state, numbers = way[-1], keeper_of(way)
        names = [[name for name, _ in product.house.routine_of(routine).names]
                 for routine in (product.keeper, product.other)]
        self.assertEqual(len(machine), sum(side[0] is not None for side in state[:2]))
        for number, (node, _) in zip(numbers, state[:2]):
            if node is not None:
                hand = machine.hand_at(number)
                self.assertEqual((hand.point, hand.guards, hand.stack, hand.over), node + (None, node == OVER)
                                 if hand.stack is None else node + ((), False))
        self.check_common(machine, state, numbers, names)
        self.check_numbers(machine, firsts, turns)
        return machine

    def check_common(self, machine, state, numbers, names):
        """The names of both sides lead to one object, and only they do, which has the owner told and the mark."""
        led = [(side, name, machine.hand_at(numbers[side]).leads_to(name)) for side in (0, 1)
               if state[side][0] not in (None, OVER) for name in names[side]]
        common = {one for side, name, one in led if name in state[side][1]}
        self.assertLessEqual(len(common), 1)
        if state[2] == "none":
            self.assertEqual(common, set())
            return
        self.assertEqual([one for side, name, one in led if name not in state[side][1] and one in common], [])
        owner = machine.heap_now.object_rows[min(common)][2]
        self.assertEqual(owner, None if state[2] == "shared" else numbers[("keeper", "other").index(state[2])])
        # Objects that are not common have one hand each.
        for side, _, one in led:
            self.assertTrue(one in common or one not in [two for other, _, two in led if other != side])
        for name in state[0][1]:
            self.check_mark(machine, numbers[0], name, state[3])

    def check_mark(self, machine, number, name, mark):
        hand = machine.hand_at(number)
        kind, worths, _ = machine.heap_now.object_rows[hand.leads_to(name)]
        at = machine.house.fields_of(kind).index(self.field)
        sheet = hand.sheet_of(name)[at]
        self.assertEqual("nothing" if sheet is None else "fresh" if sheet == worths[at] else "struck", mark)

    def check_numbers(self, machine, firsts, turns):
        """All first, written and changed numbers are positive and different from one another."""
        worths = [worth for _, numbers in firsts for worth in numbers]
        trial = Machine(machine.house, firsts)
        for hand, move in turns:
            if move[0] == "change":
                worths.append(move[3])
            if move[0] == "go" and trial.step_at(hand)[0] == "write":
                worths.append(move[1])
            trial.turn(hand, move)
        self.assertEqual((len(worths), min(worths) > 0), (len(set(worths)), True))

    def check_product(self, rng, house, told, most):
        try:
            product = Product(house, *told)
        except TooLarge:
            return 0
        self.field = product.field
        states = [state for state in product.states if state[3] == "struck"]
        states += rng.sample(list(product.states), min(most, len(product)))
        for state in states[:2 * most]:
            self.check(product, product.way_to(state))
        for _ in range(most):
            way = [FIRST]
            for _ in range(rng.randint(0, 16)):
                steps = product.steps_at(way[-1])
                if not steps:
                    break
                # Strikes are seldom, so they are made where they can be.
                way.append(rng.choice([step for step in steps if step[2][3] == "struck"] or steps)[2])
            self.check(product, rng.choice((list, tuple))(way))
        return len([state for state in states if state[3] == "struck"])

    def test_random_houses(self):
        rng = random.Random(75)
        struck = 0
        houses = [random_house(seed, rows=6, names=3, routines=2) for seed in range(60)]
        houses += [busy_house(seed, rows=6, names=3) for seed in range(150)]
        for house in houses:
            told = pairs_of(house)
            for one in rng.sample(told, min(3, len(told))):
                struck += self.check_product(rng, house, one, 8)
        self.assertGreater(struck, 300)

    def test_full_houses(self):
        rng = random.Random(76)
        for text in TEXTS[:3]:
            house = House.read(text)
            for told in pairs_of(house):
                self.check_product(rng, house, told, 5)

    def test_a_made_object_that_another_hand_is_led_to(self):
        text = "kind k - n\nroutine r x:k y:k\ndo make x, make y, put y\ndone\nroutine w u:k\ndo write u n\ndone"
        product = Product(House.read(text), "r", "w", "k", "n")
        self.field = "n"
        none, y = (None, ()), ("y",)
        way = [FIRST, (((0, ()), ()), none, "none", "nothing"), (((1, ()), ()), none, "none", "nothing"),
               (((2, ()), y), none, "keeper", "fresh"), (((3, ()), y), none, "shared", "fresh"),
               (((3, ()), y), ((0, ()), ("u",)), "shared", "fresh"), (((3, ()), y), ((1, ()), ("u",)), "shared", "struck")]
        for many in range(1, len(way) + 1):
            self.check(product, way[:many])
        # The first objects are one for x and one for y, then come those that are made.
        firsts, turns = weaving_along(product, way)
        self.assertEqual((len(firsts), turns[-2]), (2, (1, ("start", "w", (3,)))))

    def test_the_beginning(self):
        product = Product(HOUSE, "r", "w", "box", "n")
        self.field = "n"
        for way in ([FIRST], (FIRST,)):
            firsts, turns = weaving_along(product, way)
            self.assertEqual((firsts, turns), ((("box", (1,)),), ()))


class StrikeTest(unittest.TestCase):
    def turns(self, *states, product=None):
        product = product or Product(HOUSE, "r", "w", "box", "n")
        way = [FIRST] + list(states)
        firsts, turns = weaving_along(product, way)
        replay(product.house, firsts, turns)
        return [(hand, (move[:3] if move[0] == "change" else move)) for hand, move in turns]

    # The keeper with x at its keep, and the other hand at each of its calls.
    NOT = (None, ())
    START = ((0, ()), ("x",))
    AT_KEEP = ((1, ()), ("x",))

    def at(self, other, mark="fresh"):
        return (self.AT_KEEP, other, "shared", mark)

    def ahead(self, names):
        first = ((0, ()), names)
        return [(self.NOT, first, "shared" if names else "none", "nothing"), (self.START, first, "shared", "nothing"),
                self.at(first)]

    def test_a_strike_under_the_lock(self):
        first = ((0, ()), ())
        found = self.turns(*self.ahead(()), self.at(first, "struck"), self.at(((1, ()), ()), "struck"))
        # The first objects are one for u, one for x and one for y.
        self.assertEqual(found, [
            (0, ("start", "w", (0,))), (1, ("start", "r", (1, 2))), (1, ("go", None, 1)), (0, ("enter",)),
            (0, ("want", "a")), (0, ("take",)), (0, ("change", 1, "n")), (0, ("back",)), (0, ("leave", None, 1))])

    def test_a_strike_at_an_object_passed(self):
        first, second = ((0, ()), ("u",)), ((1, ()), ("u",))
        found = self.turns(*self.ahead(("u",)), self.at(second), self.at(second, "struck"))
        self.assertEqual(found, [
            (0, ("start", "w", (0,))), (1, ("start", "r", (0, 1))), (1, ("go", None, 1)), (0, ("enter",)),
            (0, ("leave", None, 1)), (0, ("enter",)), (0, ("change", 0, "n"))])
        self.assertIn(first, [one for state in self.ahead(("u",)) for one in state[:2]])

    def test_several_strikes_inside_one_call(self):
        text = TEXT.replace("do read x n, keep x n", "do read x n, read x n, keep x n")
        product = Product(House.read(text), "r", "w", "box", "n")
        second = ((2, ()), ("x",))
        first = ((0, ()), ())
        found = self.turns(*self.ahead(()), self.at(first, "struck"), (second, first, "shared", "fresh"),
                           (second, first, "shared", "struck"), (second, ((1, ()), ()), "shared", "struck"), product=product)
        self.assertEqual([move[0] for _, move in found],
                         ["start", "start", "go", "enter", "want", "take", "change", "back", "go", "want", "take", "change",
                          "back", "leave"])

    def test_a_lock_handed_back(self):
        last = ((2, ()), ())
        given = ((3, (("g", "a"),)), ())
        states = [(self.NOT, ((at, ()), ()), "none", "nothing") for at in range(3)]
        self.assertEqual(self.turns(*states, (self.NOT, given, "none", "nothing"))[-4:],
                         [(0, ("enter",)), (0, ("want", "a")), (0, ("take",)), (0, ("leave", "a", 3))])
        self.assertEqual(states[-1][1], last)

    def test_the_other_hand_is_over(self):
        states = [(self.NOT, ((at, ()), ()), "none", "nothing") for at in range(3)]
        states += [(self.NOT, ((3, (("g", "a"),)), ()), "none", "nothing"), (self.NOT, ((4, ()), ()), "none", "nothing"),
                   (self.NOT, (OVER, ()), "none", "nothing")]
        self.assertEqual(self.turns(*states)[-1], (0, ("go", None, None)))

    def test_the_open_go_shows_another_number(self):
        product = Product(HOUSE, "r", "w", "box", "n")
        self.assertGreater(len(product.open_states()), 1)
        for state in product.open_states():
            way = product.way_to(state)
            firsts, turns = weaving_along(product, way)
            keeper = keeper_of(way)[0]
            machine = replay(HOUSE, firsts, turns + ((keeper, ("go", None, 2)),))
            stale = [fault for fault in machine.faults_made if fault[0] == "stale"]
            self.assertEqual(stale, [("stale", len(turns), keeper, 1)])


class ErrorTest(unittest.TestCase):
    def test_wrong_ways(self):
        product = Product(HOUSE, "r", "w", "box", "n")
        good = list(first_with(product, "struck"))
        self.assertEqual(len(good), 5)
        for wrap in (list, tuple):
            self.assertEqual(error_of(weaving_along, product, wrap([])), ("BadPath", 0))
            self.assertEqual(error_of(weaving_along, product, wrap(good[1:])), ("BadPath", 0))
            for at in range(len(good)):
                for value in ODD_VALUES + (good[0][:3], list(good[1]), (good[1][0], good[1][1], "none", "fresh")):
                    way = wrap(good[:at] + [value] + good[at + 1:])
                    self.assertEqual(error_of(weaving_along, product, way), ("BadPath", at))
            for at in range(2, len(good)):
                way = wrap(good[:at - 1] + good[at:])
                self.assertEqual(error_of(weaving_along, product, way), ("BadPath", at - 1))
            self.assertEqual(error_of(weaving_along, product, wrap(good + [FIRST])), ("BadPath", len(good)))
            self.assertEqual(error_of(weaving_along, product, wrap([FIRST, FIRST])), ("BadPath", 1))

    def test_a_way_that_goes_on(self):
        product = Product(HOUSE, "r", "w", "box", "n")
        good = list(first_with(product, "struck"))
        for at in range(1, len(good) + 1):
            self.assertIsNone(error_of(weaving_along, product, good[:at]))


if __name__ == "__main__":
    unittest.main()
