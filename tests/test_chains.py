"""[63]: chains, against trying all sequences of requests."""

import random
import unittest

from request_oracle import chains, lengths_of, random_table
from handsroom.chains import chains_of, closes
from handsroom.cycles import least_cycle, least_cycle_within
from handsroom.requests import Requests


def table(locks, rows):
    """A table whose rows may have one letter for a held lock."""
    return Requests(locks, [(tuple(held), wanted, length) for held, wanted, length in rows])


class ChainTest(unittest.TestCase):
    def test_chains(self):
        given = table(("a", "b", "c"), [("a", "b", 1), ("b", "c", 1), ("c", "a", 1), ((), "a", 1), ("a", "a", 1)])
        self.assertEqual(chains_of(given), (
            (("a",), "b"), (("a", "b"), "c"), (("a", "b", "c"), "a"), (("a", "b", "c"), "b"), (("a", "b", "c"), "c"),
            (("a", "c"), "b"), (("b",), "c"), (("b", "c"), "a"), (("c",), "a")))

    def test_held_sets_that_meet_are_not_joined(self):
        given = table(("a", "b", "c"), [(("a", "c"), "b", 1), (("b", "c"), "a", 1)])
        self.assertEqual(chains_of(given), ((("a", "c"), "b"), (("b", "c"), "a")))

    def test_a_chain_that_closes_goes_no_further(self):
        given = table(("a", "b", "c"), [("a", "b", 1), ("b", "a", 1), (("c",), "b", 1)])
        self.assertEqual(chains_of(given), (
            (("a",), "b"), (("a", "b"), "a"), (("a", "b"), "b"), (("a", "b", "c"), "b"), (("b",), "a"), (("b", "c"), "a"),
            (("c",), "b")))

    def test_none(self):
        self.assertEqual(chains_of(Requests((), [])), ())
        self.assertEqual(chains_of(table(("a",), [((), "a", 1), ("a", "a", 1)])), ())

    def test_closes(self):
        self.assertIs(closes((("a", "b"), "b")), True)
        self.assertIs(closes((("a", "b"), "c")), False)
        self.assertIs(closes(((), "c")), False)


class OracleTest(unittest.TestCase):
    def test_random_tables(self):
        rng = random.Random(63)
        closed = whole = 0
        for _ in range(500):
            locks, rows = random_table(rng)
            given, lengths = Requests(locks, rows), lengths_of(locks, rows)
            found = chains_of(given)
            self.assertIsInstance(found, tuple)
            self.assertEqual(list(found), chains(locks, lengths))
            self.assertIs(any(closes(chain) for chain in found), least_cycle(given) != ())
            for chain in found:
                self.assertIs(closes(chain), chain[1] in chain[0])
                if closes(chain):
                    self.assertNotEqual(least_cycle_within(given, chain[0]), ())
                    closed += 1
            whole += len(found)
        self.assertGreater(min(closed, whole - closed), 100)


if __name__ == "__main__":
    unittest.main()
