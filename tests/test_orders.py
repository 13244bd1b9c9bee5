"""[64]: lock pairs, lock cycles and lock orders, against all orders of the locks."""

import itertools
import random
import unittest

from helpers import error_of
from request_oracle import lengths_of, lock_cycles, orders, pairs, random_table
from handsroom.cycles import least_cycle, request_cycles
from handsroom.orders import lock_order, lock_pairs, shortest_lock_cycle
from handsroom.requests import Requests

LOCKS = ("a", "b", "c", "d")


def table(locks, rows):
    """A table whose rows may have one letter for a held lock."""
    return Requests(locks, [(tuple(held), wanted, length) for held, wanted, length in rows])


class PairTest(unittest.TestCase):
    def test_pairs(self):
        given = table(("c", "b", "a"), [(("a", "c"), "b", 1), ("b", "a", 1), ("a", "b", 1), ((), "a", 1), ("a", "a", 1)])
        self.assertEqual(lock_pairs(given), (("c", "b"), ("a", "b"), ("b", "a")))
        self.assertEqual(lock_pairs(table(LOCKS, [])), ())


class CycleTest(unittest.TestCase):
    def test_cycles(self):
        for wrap in (list, tuple):
            told = wrap([("d", "c"), ("c", "d"), ("a", "b"), ("b", "c"), ("c", "a")])
            self.assertEqual(shortest_lock_cycle(wrap(LOCKS), told), ("c", "d"))
            self.assertEqual(shortest_lock_cycle(wrap("dcba"), told), ("d", "c"))
            self.assertEqual(shortest_lock_cycle(wrap(LOCKS), told[2:]), ("a", "b", "c"))
            self.assertEqual(shortest_lock_cycle(wrap(LOCKS), told[3:]), ())
            self.assertEqual(shortest_lock_cycle(wrap([]), wrap([])), ())

    def test_of_several_the_least_positions(self):
        told = [("a", "c"), ("c", "a"), ("a", "b"), ("b", "a"), ("b", "c")]
        self.assertEqual(shortest_lock_cycle(LOCKS, told), ("a", "b"))
        four = [("a", "c"), ("c", "b"), ("b", "d"), ("d", "a"), ("c", "d"), ("d", "b"), ("b", "a")]
        self.assertEqual(shortest_lock_cycle(LOCKS, four), ("b", "d"))
        self.assertEqual(shortest_lock_cycle(LOCKS, [("a", "c"), ("c", "b"), ("b", "d"), ("d", "a"), ("c", "d")]),
                         ("a", "c", "d"))
        self.assertEqual(shortest_lock_cycle(LOCKS, [("a", "c"), ("c", "d"), ("d", "b"), ("b", "a")]), ("a", "c", "d", "b"))

    def test_all_pairs_of_three_and_some_of_four(self):
        rng = random.Random(65)
        possible = list(itertools.permutations("xyz", 2))
        for many in range(len(possible) + 1):
            for told in itertools.combinations(possible, many):
                for locks in itertools.permutations("xyz"):
                    want = lock_cycles(locks, told)
                    self.assertEqual(shortest_lock_cycle(locks, told), want[0] if want else ())
        possible = list(itertools.permutations(LOCKS, 2))
        for _ in range(1500):
            told = rng.sample(possible, rng.randint(0, 8))
            want = lock_cycles(LOCKS, told)
            self.assertEqual(shortest_lock_cycle(LOCKS, told), want[0] if want else ())


class OrderTest(unittest.TestCase):
    def test_orders(self):
        self.assertEqual(lock_order(table(LOCKS, [])), LOCKS)
        self.assertEqual(lock_order(table((), [])), ())
        self.assertEqual(lock_order(table(LOCKS, [("d", "a", 1)])), ("b", "c", "d", "a"))
        self.assertEqual(lock_order(table(LOCKS, [("d", "b", 1), ("b", "a", 1)])), ("c", "d", "b", "a"))
        self.assertEqual(lock_order(table(LOCKS, [(("c", "b"), "a", 1), ((), "d", 1), ("d", "d", 1)])),
                         ("b", "c", "a", "d"))

    def test_none(self):
        given = table(("a", "b", "g"), [(("a", "g"), "b", 2), (("b", "g"), "a", 2)])
        self.assertEqual(error_of(lock_order, given), ("NoLockOrder", ("a", "b")))
        # Without an order there may be no request cycle either.
        self.assertEqual(least_cycle(given), ())
        given = table(LOCKS, [("c", "a", 1), ("a", "d", 1), ("d", "c", 1), ("b", "a", 1)])
        self.assertEqual(error_of(lock_order, given), ("NoLockOrder", ("a", "d", "c")))

    def test_random_tables(self):
        rng = random.Random(64)
        none = some = 0
        for _ in range(600):
            locks, rows = random_table(rng)
            given, lengths = Requests(locks, rows), lengths_of(locks, rows)
            told = pairs(locks, lengths)
            self.assertEqual(lock_pairs(given), tuple(told))
            want, shortest = orders(locks, told), lock_cycles(locks, told)
            self.assertIs(bool(want), not shortest)
            self.assertEqual(shortest_lock_cycle(locks, told), shortest[0] if shortest else ())
            # permutations come in the order of the positions, so the first order is the least.
            if want:
                some += 1
                self.assertEqual(lock_order(given), want[0])
                self.assertEqual(least_cycle(given), ())
                continue
            none += 1
            self.assertEqual(error_of(lock_order, given), ("NoLockOrder", shortest[0]))
            kept = given.kept_to(shortest[0])
            every = [cycle for hands in range(2, 5) for cycle in request_cycles(kept, hands=hands)]
            self.assertEqual([len(cycle) for cycle in every], [len(shortest[0])])
            self.assertTrue(all(len(held) == 1 for held, _ in every[0]))
        self.assertGreater(min(none, some), 60)

    def test_an_order_just_if_no_table_kept_has_a_cycle(self):
        rng = random.Random(66)
        for _ in range(150):
            locks, rows = random_table(rng)
            given = Requests(locks, rows)
            every = [kept for many in range(len(locks) + 1) for kept in itertools.combinations(locks, many)]
            cyclic = any(least_cycle(given.kept_to(kept)) for kept in every)
            self.assertIs(error_of(lock_order, given) is not None, cyclic)


if __name__ == "__main__":
    unittest.main()
