"""[65], [66]: the table of a house, against what hands hold and want in all lone runs, also inside calls."""

import random
import unittest

from helpers import ODD_VALUES, TEXTS, THING, error_of
from lock_oracle import Locks
from random_houses import GUARD_WORDS, lock_house, nested_house, random_house, random_signature
from test_stands import locks_after
from handsroom.changing import alone
from handsroom.errors import NoRequest
from handsroom.houses import House
from handsroom.lonetable import LoneTable
from handsroom.needs import requests_at, requests_of, stand_for
from handsroom.requests import Requests
from handsroom.spreading import Spread
from handsroom.stands import Stand

TEXT = "\n".join([
    "lock a", "lock b", "lock c", "kind k - n", "body hit : +a +b +c a>b b>a", "body lend : +a +c =a",
    "routine r", "with take c", "do call hit", "close", "do call lend, take b", "done", "routine s", "done"])
HOUSE = House.read(TEXT)


def rows_of(table):
    return {request: table[request] for request in table}


def tried(house):
    """The requests of all lone runs of a house with their least lengths, by trying everything."""
    world, found = Locks(house), {}
    for state, length in world.lone_states().items():
        if world.wants(state) is not None:
            held = tuple(lock for lock in house.locks if lock in world.held(state))
            request = (held, world.wants(state))
            found[request] = min(length, found.get(request, length))
    return found


class AtTest(unittest.TestCase):
    def test_a_take(self):
        spread = Spread(HOUSE, "r")
        self.assertEqual(requests_at(spread, (0, ())), ((None, ((), "c")),))
        # A node that is passed alone may have any guards.
        self.assertEqual(requests_at(spread, (0, (("g", "c"), ("h", "a")))), ((None, (("a", "c"), "c")),))

    def test_a_call(self):
        spread = Spread(HOUSE, "r")
        self.assertEqual(requests_at(spread, (1, (("0.0", "c"),))), (
            ((), (("c",), "a")), ((), (("c",), "b")), ((), (("c",), "c")), (("a",), (("a", "c"), "b")),
            (("b",), (("b", "c"), "a"))))
        self.assertEqual(requests_at(spread, (1, ())), (
            ((), ((), "a")), ((), ((), "b")), ((), ((), "c")), (("a",), (("a",), "b")), (("b",), (("b",), "a"))))
        # No own stack has a lock of the guards, but a wish may want one.
        self.assertEqual(requests_at(spread, (1, (("g", "b"), ("h", "a")))), (
            ((), (("a", "b"), "a")), ((), (("a", "b"), "b")), ((), (("a", "b"), "c"))))

    def test_a_request_that_comes_twice(self):
        house = House.read("lock a\nlock b\nlock c\nkind k - n\nbody h : +a +b +c a>b a>c b>a b>c\nroutine r\ndo call h\ndone")
        found = requests_at(Spread(house, "r"), (0, ()))
        self.assertEqual(found[-2:], ((("a", "b"), (("a", "b"), "c")), (("b", "a"), (("a", "b"), "c"))))
        self.assertEqual([request for _, request in found].count((("a", "b"), "c")), 2)

    def test_other_steps(self):
        spread = Spread(HOUSE, "r")
        for point in range(len(spread)):
            if spread.points[point].step[0] not in ("take", "call"):
                self.assertEqual(requests_at(spread, (point, (("g", "a"),))), ())
        house = House.read(TEXT.replace(" +a +b +c a>b b>a", ""))
        self.assertEqual(requests_at(Spread(house, "r"), (1, ())), ())


class TableTest(unittest.TestCase):
    def test_the_table(self):
        table = requests_of(HOUSE)
        self.assertIsInstance(table, Requests)
        self.assertEqual(table.locks, ("a", "b", "c"))
        # In the loan a guard of a is made, then b is taken; the drop of the guard comes behind both.
        self.assertEqual(rows_of(table), {
            ((), "a"): 3, ((), "c"): 0, (("a",), "b"): 4, (("a", "c"), "b"): 1, (("b", "c"), "a"): 1, (("c",), "a"): 1,
            (("c",), "b"): 1, (("c",), "c"): 1})

    def test_the_least_length_of_several(self):
        house = House.read("lock a\nkind k - n\nroutine r\ndo skip, skip, take a\ndone\nroutine s\ndo skip\ndo take a\ndone")
        self.assertEqual(rows_of(requests_of(house)), {((), "a"): 1})

    def test_a_house_without_requests(self):
        for text in ("kind k - n\nroutine r\ndone", "lock a\nkind k - n\nroutine r x:k\ndo read x n\ndone"):
            self.assertEqual(list(requests_of(House.read(text))), [])
        self.assertEqual(requests_of(House.read("kind k - n\nroutine r\ndone")).locks, ())

    def test_against_all_lone_runs(self):
        inside = 0
        houses = [House.read(text) for text in TEXTS[:3]] + [HOUSE]
        houses += [lock_house(seed, rows=4) for seed in range(100)] + [nested_house(seed, locks=4) for seed in range(100)]
        houses += [random_house(seed, rows=8, routines=2, words=GUARD_WORDS) for seed in range(60)]
        for house in houses:
            want = tried(house)
            self.assertEqual(rows_of(requests_of(house)), want)
            inside += len(want) > 4
        self.assertGreater(inside, 100)

    def test_the_table_of_a_sum_is_the_join(self):
        for seed in range(60):
            house = nested_house(seed, routines=3)
            one, two = alone(house, ["r"]), alone(house, ["s", "t"])
            joined = requests_of(one) | requests_of(two)
            self.assertEqual(rows_of(requests_of(one + two)), rows_of(joined))
            self.assertEqual(rows_of(requests_of(house)), rows_of(joined))

    def test_a_wider_signature_has_all_requests(self):
        rng = random.Random(65)
        for seed in range(60):
            house = lock_house(seed)
            name, signature = house.bodies[0]
            other = random_signature(rng, house.hall, signature.places)
            if not signature.alike(other):
                continue
            before, behind = requests_of(house), requests_of(house.with_signature(name, signature | other))
            for request in before:
                self.assertLessEqual(behind[request], before[request])


class StandForTest(unittest.TestCase):
    def test_each_request_has_a_stand(self):
        houses = [HOUSE] + [lock_house(seed, locks=4) for seed in range(40)] + [nested_house(seed) for seed in range(60)]
        inside = 0
        for house in houses:
            table = requests_of(house)
            for request in table:
                stand = stand_for(house, request)
                self.assertIsInstance(stand, Stand)
                self.assertIs(stand.house, house)
                self.assertEqual(((stand.held, stand.wanted), stand.length), (request, table[request]))
                held, machine = locks_after(stand)
                self.assertEqual((set(held[-1]), machine.wants(0)), (set(request[0]), request[1]))
                inside += stand.stack is not None
        self.assertGreater(inside, 300)

    def test_the_shortest_of_several(self):
        house = House.read("lock a\nlock b\nkind k - n\nbody h : +b\nroutine r\nwith take a\ndo skip, take b\nclose\ndone\n"
                           "routine s\nwith take a\ndo call h\nclose\ndone")
        stand = stand_for(house, (("a",), "b"))
        self.assertEqual((stand.routine, stand.stack, stand.length), ("s", (), 1))

    def test_a_request_that_is_not_there(self):
        wrong = [((), "b"), (("c", "a"), "b"), (("a", "c"), "c"), ((), "x"), (("x",), "a"), (("a",), "b", 0), ((), None),
                 (("c", "c"), "a"), ("c", "a"), (["c"], "a"), [("c",), "a"]]
        for value in wrong + list(ODD_VALUES) + [THING]:
            self.assertEqual(error_of(stand_for, HOUSE, value), ("NoRequest", value))
        self.assertEqual(stand_for(HOUSE, (("c",), "a")).length, 1)
        with self.assertRaises(NoRequest):
            stand_for(HOUSE, 3)

    def test_lone_paths_reach_their_requests(self):
        """A request stands in the table with a length of at most d exactly if some run of at most d comes to it."""
        for seed in range(30):
            house = lock_house(seed)
            for routine in house.routines:
                table = LoneTable(Spread(house, routine.name))
                for node in table.nodes:
                    for _, request in requests_at(table.spread, node):
                        self.assertLessEqual(requests_of(house)[request], table.distance_to(node))


if __name__ == "__main__":
    unittest.main()
