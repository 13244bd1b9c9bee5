"""[72] to [75]: products, against walking two hands."""

import random
import unittest

from helpers import NO_NUMBERS, ODD_VALUES, TEXTS, error_of
from pair_oracle import FIRST, OVER, Pair, pairs_of
from random_houses import busy_house, random_house
from handsroom.houses import House
from handsroom.products import Product

TEXT = "\n".join([
    "lock a", "kind box a n", "kind bag - n m", "body hit : +a box.n", "body pass box : box.n", "body lay box* :",
    "body lend : +a =a", "routine r x:box y:box", "do read x n, keep x n", "done",
    "routine w u:box", "do write u n", "done"])
HEAD = TEXT.partition("\nroutine")[0]
NOT, GONE = (None, ()), ((None, ()), ())


def product(*rows, other=("do write u n",), names="x:box y:box", others="u:box", sort=("box", "n")):
    lines = [HEAD, "routine r " + names if names else "routine r", *rows, "done"]
    lines += ["routine w " + others if others else "routine w", *other, "done"]
    # The hall of these houses has four bodies, one too many: a routine needs only those that it calls.
    used = " ".join(rows + other)
    text = "\n".join(line for line in "\n".join(lines).split("\n")
                     if not line.startswith("body") or "call " + line.split(" ")[1] in used)
    return Product(House.read(text), "r", "w", *sort)


def at(point, *guards):
    return (point, guards)


def reached(given, state):
    """The states to which steps of each hand lead from a state, with their lengths."""
    return {(hand, length, after) for hand, length, after in given.steps_at(state)}


class ProductTest(unittest.TestCase):
    def test_the_beginning(self):
        given = product("do read x n, keep x n")
        self.assertEqual(FIRST, (NOT, NOT, "none", "nothing"))
        self.assertEqual((given.states[0], given.distance_to(FIRST), given.way_to(FIRST)), (FIRST, 0, (FIRST,)))
        self.assertEqual((given.house.routine_of("w").name, given.keeper, given.other, given.kind, given.field),
                         ("w", "r", "w", "box", "n"))
        self.assertEqual((type(given.states), len(given), list(given)), (tuple, len(given.states), list(given.states)))
        self.assertEqual(reached(given, FIRST), {
            (0, 0, (((0, ()), ()), NOT, "none", "nothing")),
            (0, 0, (((0, ()), ("x",)), NOT, "shared", "nothing")),
            (0, 0, (((0, ()), ("y",)), NOT, "shared", "nothing")),
            (1, 0, (NOT, ((0, ()), ()), "none", "nothing")),
            (1, 0, (NOT, ((0, ()), ("u",)), "shared", "nothing"))})

    def test_a_way_to_an_open_state(self):
        given = product("do read x n, keep x n")
        last = ((at(1), ("x",)), (at(1), ("u",)), "shared", "struck")
        self.assertEqual(given.open_states()[0], last)
        self.assertEqual((given.distance_to(last), len(given.way_to(last))), (2, 5))
        self.assertIs(given.is_open(last), True)
        self.assertIs(given.is_open(FIRST), False)
        for state in [((at(1), ("y",)), (at(1), ("u",)), "shared", "struck"),
                      ((at(1), ("x",)), (at(1), ("u",)), "shared", "fresh"),
                      ((at(2), ("x",)), (at(1), ("u",)), "shared", "struck")]:
            self.assertIs(given.is_open(state), False, state)
        self.assertIs(given.is_open(((at(1), ("x",)), GONE, "shared", "struck")), True)
        self.assertEqual({state[1] for state in given.open_states()}, {(at(1), ("u",)), GONE})

    def test_makes(self):
        given = product("do make x, put x, read x n", other=("do make u",))
        start = ((at(0), ()), NOT, "none", "nothing")
        own = ((at(1), ("x",)), NOT, "keeper", "fresh")
        self.assertEqual(reached(given, start) - {(1, 0, (start[0], (at(0), ()), "none", "nothing")),
                                                  (1, 0, (start[0], (at(0), ("u",)), "shared", "nothing"))},
                         {(0, 1, ((at(1), ()), NOT, "none", "nothing")), (0, 1, own)})
        # Nobody else can be led to an own object.
        self.assertEqual(reached(given, own), {(0, 1, ((at(2), ("x",)), NOT, "shared", "fresh")),
                                               (1, 0, (own[0], (at(0), ()), "keeper", "fresh"))})
        theirs = (NOT, (at(1), ("u",)), "other", "nothing")
        self.assertIn((1, 1, theirs), reached(given, (NOT, (at(0), ()), "none", "nothing")))
        self.assertEqual({step for step in reached(given, theirs) if step[0] == 0},
                         {(0, 0, ((at(0), ()), theirs[1], "other", "nothing"))})
        # A name that leads to the common object and makes leaves it, and no other one is made common then.
        self.assertEqual({step[2] for step in given.steps_at(((at(0), ("x",)), NOT, "shared", "nothing")) if step[0] == 0},
                         {((at(1), ()), NOT, "none", "nothing")})

    def test_fetches(self):
        given = product("do read x n, copy y x, fetch x, fetch y x, fetch x x", other=("do skip",))
        there = ((at(1), ("x",)), NOT, "shared", "fresh")
        both = ((at(2), ("x", "y")), NOT, "shared", "fresh")
        self.assertEqual({step for step in reached(given, there) if step[0] == 0}, {(0, 1, both)})
        # With y among the names x cannot be led there again.
        left = ((at(3), ("y",)), NOT, "shared", "fresh")
        self.assertEqual({step for step in reached(given, both) if step[0] == 0}, {(0, 1, left)})
        self.assertEqual({step for step in reached(given, left) if step[0] == 0},
                         {(0, 1, ((at(4), ()), NOT, "none", "nothing")),
                          (0, 1, ((at(4), ("y",)), NOT, "shared", "nothing"))})
        # x is barred from the object to which it led.
        given = product("do read x n, fetch x x", other=("do skip",))
        self.assertEqual({step for step in reached(given, there) if step[0] == 0},
                         {(0, 1, ((at(2), ()), NOT, "none", "nothing"))})

    def test_locks(self):
        given = product("do take a", other=("do take a, write u n",))
        state = ((at(1, ("0.0", "a")), ()), (at(0), ()), "none", "nothing")
        self.assertIn(state, given)
        self.assertEqual({step[0] for step in given.steps_at(state)}, {0})
        given = product("do take a", other=("with call lend", "close"))
        state = ((at(1, ("0.0", "a")), ()), (at(0), ()), "none", "nothing")
        self.assertEqual({step[0] for step in given.steps_at(state)}, {0})

    def test_the_keeper_is_never_over(self):
        given = product(other=())
        self.assertEqual(set(given.states), {FIRST} | {
            state for state in given.states if state[0][0] in (None, (0, ())) and state[1][0] in (None, (0, ()), OVER)})
        stop = ((at(0), ("x",)), (at(0), ("u",)), "shared", "nothing")
        self.assertEqual(reached(given, stop), {(1, 1, ((at(0), ("x",)), GONE, "shared", "nothing"))})
        self.assertEqual(reached(given, ((at(0), ()), (at(0), ("u",)), "shared", "nothing")),
                         {(1, 1, ((at(0), ()), GONE, "none", "nothing"))})

    def strikes(self, call, guard=False, names=("u",), kind="box"):
        rows = ["with take a"] * guard + ["do read x n"] + ["close"] * guard
        given = product(*rows, names="x:" + kind, other=("do " + call,), others="u:box v:bag", sort=(kind, "n"))
        node = at(2, ("0.0", "a")) if guard else at(1)
        state = ((node, ("x",)), (at(0), names), "shared", "fresh")
        self.assertIn(state, given)
        found = [step for step in given.steps_at(state) if step[1] == 0]
        self.assertIn(found, ([], [(1, 0, state[:3] + ("struck",))]))
        return len(found) == 1

    def test_strikes(self):
        self.assertTrue(self.strikes("call hit", names=()))
        self.assertTrue(self.strikes("call hit"))
        self.assertFalse(self.strikes("call hit", guard=True))
        self.assertTrue(self.strikes("call pass u"))
        self.assertTrue(self.strikes("call pass u", guard=True))
        self.assertFalse(self.strikes("call pass u", names=()))
        self.assertFalse(self.strikes("call lay u"))
        self.assertFalse(self.strikes("call hit", names=(), kind="bag"))

    def test_a_strike_under_a_lock_that_the_other_hand_holds(self):
        given = product("do read x n", other=("do take a, call hit",))
        state = ((at(1), ("x",)), (at(1, ("0.0", "a")), ()), "shared", "fresh")
        self.assertIn(state, given)
        self.assertEqual([step for step in given.steps_at(state) if step[1] == 0], [])

    def test_an_open_kind_is_struck_without_a_lock(self):
        text = "kind k - n\nbody hit : k.n\nroutine r x:k\ndo read x n\ndone\nroutine w\ndo call hit\ndone"
        given = Product(House.read(text), "r", "w", "k", "n")
        state = ((at(1), ("x",)), (at(0), ()), "shared", "fresh")
        self.assertIn((1, 0, state[:3] + ("struck",)), given.steps_at(state))

    def test_shares(self):
        given = product("do make x, call lay x, call pass x, read x n")
        own = ((at(1), ("x",)), NOT, "keeper", "fresh")
        shared = ((at(2), ("x",)), NOT, "shared", "fresh")
        self.assertIn((0, 1, shared), given.steps_at(own))
        # What the keeper's own calls change is left out.
        self.assertIn((0, 1, ((at(3), ("x",)), NOT, "shared", "fresh")), given.steps_at(shared))

    def test_other_fields_and_kinds_count_for_nothing(self):
        given = product("do read x m", "do write x n", names="x:bag", other=("do write v m",), others="v:bag",
                        sort=("bag", "n"))
        self.assertEqual({state[3] for state in given if state[0][0] == at(1)}, {"nothing"})
        self.assertEqual({state[3] for state in given if state[0][0] == at(2) and state[0][1]}, {"fresh"})
        self.assertEqual(given.open_states(), ())

    def test_loops_to_the_same_state(self):
        given = product("repeat", "close")
        start = ((at(0), ("x",)), NOT, "shared", "nothing")
        self.assertIn((0, 1, start), given.steps_at(start))

    def test_one_routine_twice(self):
        house = House.read("kind k - n\nroutine r x:k\ndo read x n, keep x n, write x n\ndone")
        given = Product(house, "r", "r", "k", "n")
        self.assertEqual([given.distance_to(state) for state in given.open_states()][0], 4)


class ErrorTest(unittest.TestCase):
    HOUSE = House.read(TEXT.replace("body lend : +a =a\n", ""))

    def test_unknown_parts(self):
        good = ["r", "w", "box", "n"]
        Product(self.HOUSE, *good)
        for place in range(4):
            for value in ODD_VALUES + ("a", "m", "hit", "x", 0):
                told = good[:place] + [value] + good[place + 1:]
                self.assertEqual(error_of(Product, self.HOUSE, *told), ("NoSuch", value))
                self.assertEqual(error_of(Product, self.HOUSE, *told[:place + 1], *["none"] * (3 - place)), ("NoSuch", value))

    def test_unknown_parts_come_ahead_of_the_bound(self):
        house = large_house(*OVER_BOUND)
        self.assertEqual(error_of(Product, house, "r", "w", "k", "m"), ("NoSuch", "m"))
        self.assertEqual(error_of(Product, house, "r", "w", "k", "n"), ("TooLarge", "states"))

    def test_states_that_are_not_there(self):
        given = Product(self.HOUSE, "r", "w", "box", "n")
        values = [value for value in ODD_VALUES + NO_NUMBERS] + [
            FIRST[:3], FIRST + (1,), list(FIRST), (list(NOT), NOT, "none", "nothing"), (NOT, NOT, "none", []),
            (NOT, NOT, [], "nothing"), (NOT, NOT, "none", "fresh"), (GONE, NOT, "none", "nothing"),
            (((0, []), ()), NOT, "none", "nothing"), (((0, ()), []), NOT, "none", "nothing"),
            (((0, ()), (["x"],)), NOT, "shared", "nothing"), (((False, ()), ()), NOT, "none", "nothing"),
            (((0, ()), ("u",)), NOT, "shared", "nothing"), (((9, ()), ()), NOT, "none", "nothing"),
            (NOT + ((),), NOT, "none", "nothing"), (NOT[:1], NOT, "none", "nothing"), ((), NOT, "none", "nothing"),
            (NOT, ((0, []), ()), "none", "nothing"), (NOT, list(NOT), "none", "nothing"), (NOT, None, "none", "nothing"),
            (NOT, NOT + ((),), "none", "nothing"), (NOT, ((0, ()), ([],)), "shared", "nothing")]
        for value in values:
            self.assertIs(value in given, False, value)
            self.assertEqual(error_of(given.distance_to, value), ("NoState", value))
            self.assertEqual(error_of(given.way_to, value), ("NoState", value))
        self.assertIs(FIRST in given, True)


def large_house(deed, ahead, behind, other_ahead):
    """A house of two routines, each with skips ahead of a deed and behind it."""
    skips = [["do skip"] * many for many in (ahead, behind, other_ahead, 9)]
    lines = ["kind k - n", "routine r x:k y:k z:k", *skips[0], "do " + deed, *skips[1], "done",
             "routine w u:k v:k", *skips[2], "do write u n", *skips[3], "done"]
    return House.read("\n".join(lines))


# Houses whose products of r and w for (k, n) have just as many states as is allowed, and one more.
AT_BOUND = ("copy x y", 9, 12, 5)
OVER_BOUND = ("make x", 12, 0, 12)


class BoundTest(unittest.TestCase):
    def test_the_bound(self):
        for told, many in [(AT_BOUND, 4000), (OVER_BOUND, 4001)]:
            self.assertEqual(len(Pair(large_house(*told), "r", "w", "k", "n").distances()), many)
        self.assertEqual(len(Product(large_house(*AT_BOUND), "r", "w", "k", "n")), 4000)
        self.assertEqual(error_of(Product, large_house(*OVER_BOUND), "r", "w", "k", "n"), ("TooLarge", "states"))


class OracleTest(unittest.TestCase):
    def check(self, house, told, most):
        pair = Pair(house, *told)
        want = pair.distances(most)
        if want is None:
            return 0
        given = Product(house, *told)
        self.assertEqual({state: given.distance_to(state) for state in given}, want)
        self.assertEqual(len(given), len(want))
        distances = [given.distance_to(state) for state in given.states]
        self.assertEqual(distances, sorted(distances))
        for state in given.states:
            steps = given.steps_at(state)
            self.assertEqual((len(steps), set(steps)), (len(set(steps)), pair.steps(state)))
            self.assertIs(given.is_open(state), pair.is_open(state))
        self.assertEqual([state for state in given.states if pair.is_open(state)], list(given.open_states()))
        for state in given.states[::7]:
            way = given.way_to(state)
            self.assertEqual((way[0], way[-1]), (FIRST, state))
            lengths = [min(length for _, length, after in pair.steps(one) if after == two)
                       for one, two in zip(way, way[1:])]
            self.assertEqual(sum(lengths), want[state])
        return len(given.open_states())

    def test_random_houses(self):
        rng = random.Random(72)
        opened = 0
        houses = [random_house(seed, rows=5, names=3, routines=2) for seed in range(60)]
        for house in houses + [busy_house(seed, rows=6) for seed in range(150)]:
            told = pairs_of(house)
            for one in rng.sample(told, min(3, len(told))):
                opened += self.check(house, one, 500) > 0
        self.assertGreater(opened, 15)

    def test_full_houses(self):
        rng = random.Random(73)
        for text in TEXTS:
            house = House.read(text)
            told = pairs_of(house)
            for one in rng.sample(told, min(4, len(told))):
                self.check(house, one, 700)

    def test_too_large(self):
        found = 0
        for seed in range(60):
            house = random_house(seed + 900, rows=12, names=4, routines=2)
            for told in pairs_of(house)[:2]:
                if Pair(house, *told).distances(4000) is None:
                    found += 1
                    self.assertEqual(error_of(Product, house, *told), ("TooLarge", "states"))
        self.assertGreater(found, 2)


if __name__ == "__main__":
    unittest.main()
