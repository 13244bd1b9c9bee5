"""[62]: request cycles, against trying all sequences of requests."""

import random
import unittest

from helpers import error_of
from request_oracle import cycles, is_cycle, least, lengths_of, proper, random_table
from handsroom.cycles import least_cycle, least_cycle_within, request_cycles, total_length
from handsroom.requests import Requests

LOCKS = ("a", "b", "c", "d")
AB, BA, BC, CA = (("a",), "b"), (("b",), "a"), (("b",), "c"), (("c",), "a")


def table(*rows, locks=LOCKS):
    """A table whose rows may have one letter for a held lock."""
    return Requests(locks, [(tuple(held), wanted, length) for held, wanted, length in rows])


def found(given, hands):
    return list(request_cycles(given, hands=hands))


class CycleTest(unittest.TestCase):
    def test_cycles(self):
        given = table(("a", "b", 1), ("b", "a", 2), ("b", "c", 3), ("c", "a", 4))
        self.assertEqual(found(given, 2), [(AB, BA)])
        self.assertEqual(found(given, 3), [(AB, BC, CA)])
        self.assertEqual(found(given, 4), [])

    def test_numbers_of_requests(self):
        given = table(("a", "b", 1), ("b", "a", 2), ("a", "a", 0))
        for hands in (1, 0, -1, -10 ** 40, 3, 5, 10 ** 40):
            self.assertEqual(found(given, hands), [])
        self.assertEqual(found(table(), 2), [])
        self.assertTrue(hasattr(request_cycles(given, hands=2), "send"))

    def test_no_lock_is_in_two_held_sets(self):
        self.assertEqual(found(table((("a", "d"), "b", 1), (("b", "d"), "a", 1)), 2), [])
        self.assertEqual(found(table((("a", "d"), "b", 1), (("b", "c"), "a", 1)), 2),
                         [((("a", "d"), "b"), (("b", "c"), "a"))])
        # Nothing held, or the wanted lock held, is no proper request.
        self.assertEqual(found(table(((), "a", 1), (("a", "b"), "a", 1), (("b",), "a", 1)), 2), [])

    def test_a_cycle_begins_with_its_first_request(self):
        given = table(("d", "b", 1), ("b", "c", 1), ("c", "d", 1))
        self.assertEqual(found(given, 3), [((("b",), "c"), (("c",), "d"), (("d",), "b"))])
        other = table(("d", "b", 1), ("b", "c", 1), ("c", "d", 1), locks=("d", "c", "b"))
        self.assertEqual(found(other, 3), [((("d",), "b"), (("b",), "c"), (("c",), "d"))])

    def test_the_order_of_the_cycles(self):
        given = table(("a", "b", 9), ("b", "a", 9), (("a", "c"), "b", 1), (("b", "d"), "a", 1))
        one, two = (("a", "c"), "b"), (("b", "d"), "a")
        self.assertEqual(found(given, 2), [(AB, BA), (AB, two), (one, BA), (one, two)])
        self.assertEqual(least_cycle(given), (one, two))

    def test_the_fewest_requests_come_first(self):
        given = table(("a", "b", 9), ("b", "a", 9), ("b", "c", 0), ("c", "a", 0))
        self.assertEqual(least_cycle(given), (AB, BA))
        self.assertEqual(total_length(given, (AB, BA)), 18)

    def test_of_several_the_first(self):
        given = table(("a", "b", 3), ("b", "a", 3), ("c", "d", 2), ("d", "c", 4))
        self.assertEqual(least_cycle(given), (AB, BA))
        self.assertEqual(least_cycle(given | table(("d", "c", 3))), ((("c",), "d"), (("d",), "c")))

    def test_within(self):
        given = table((("a", "c"), "b", 1), ("a", "b", 5), ("b", "a", 1), ("c", "d", 4), ("d", "c", 4))
        self.assertEqual(least_cycle_within(given, LOCKS), ((("a", "c"), "b"), BA))
        for locks in (("b", "a"), ["a", "b", "d", "a"]):
            self.assertEqual(least_cycle_within(given, locks), (AB, BA))
        self.assertEqual(least_cycle_within(given, ["d", "c"]), ((("c",), "d"), (("d",), "c")))
        for locks in ((), ["a"], ["a", "c"], ("b", "c")):
            self.assertEqual(least_cycle_within(given, locks), ())
        self.assertEqual(least_cycle(table()), ())
        self.assertEqual(least_cycle(Requests((), [])), ())

    def test_total_length(self):
        given = table(("a", "b", 10 ** 50), ("b", "a", 2))
        for wrap in (list, tuple):
            self.assertEqual(total_length(given, wrap([AB, BA, AB])), 2 * 10 ** 50 + 2)
            self.assertEqual(total_length(given, wrap([])), 0)
            self.assertEqual(error_of(total_length, given, wrap([AB, BC, CA])), ("NoRequest", BC))
        for value in ((), ("a", "b"), (("b",), "b"), (("a",), "b", 3)):
            self.assertEqual(error_of(total_length, given, [AB, value, CA]), ("NoRequest", value))


class OracleTest(unittest.TestCase):
    def test_random_tables(self):
        rng = random.Random(62)
        seen = {}
        for _ in range(400):
            locks, rows = random_table(rng)
            given, lengths = Requests(locks, rows), lengths_of(locks, rows)
            for hands in range(0, 5):
                want = cycles(locks, lengths, hands) if len(proper(locks, lengths)) ** hands < 20000 else None
                if want is not None:
                    self.assertEqual(found(given, hands), want)
                    seen[hands] = seen.get(hands, 0) + len(want)
            some = [lock for lock in locks if rng.random() < 0.7]
            self.assertEqual(least_cycle_within(given, some), least(locks, lengths, some))
            self.assertEqual(least_cycle(given), least(locks, lengths, locks))
            cycle = least_cycle(given)
            if cycle:
                self.assertTrue(is_cycle(cycle))
                self.assertEqual(total_length(given, cycle), sum(lengths[one] for one in cycle))
        self.assertGreater(min(seen[hands] for hands in (2, 3)), 20)


if __name__ == "__main__":
    unittest.main()
