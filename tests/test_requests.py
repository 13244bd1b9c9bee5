"""[61]: requests and their tables, against a second reading."""

import random
import unittest

from helpers import ODD_VALUES, error_of
from request_oracle import key_of, lengths_of, ordered, proper, random_rows, random_table
from handsroom.requests import Requests, proper_requests, self_requests

LOCKS = ("m", "a", "z")
ROWS = [(("z", "m"), "a", 4), ((), "z", 0), (["a"], "a", 7), (["m", "z", "m"], "a", 3), (("a",), "m", 10 ** 50),
        (("m", "z"), "a", 9)]


class TableTest(unittest.TestCase):
    def test_a_table(self):
        for wrap in (list, tuple):
            table = Requests(wrap(LOCKS), wrap(ROWS))
            self.assertEqual(table.locks, LOCKS)
            # The positions of the held locks decide, as Python compares tuples, then that of the wanted lock.
            self.assertEqual(list(table), [((), "z"), (("m", "z"), "a"), (("a",), "m"), (("a",), "a")])
            self.assertEqual([table[one] for one in table], [0, 3, 10 ** 50, 7])
            self.assertEqual(len(table), 4)

    def test_an_empty_table(self):
        for locks in ((), ("a",)):
            table = Requests(locks, [])
            self.assertEqual((len(table), list(table), table.locks), (0, [], locks))
            self.assertEqual((proper_requests(table), self_requests(table)), ((), ()))

    def test_members(self):
        table = Requests(LOCKS, ROWS)
        for one in table:
            self.assertIs(one in table, True)
        for value in [(), ("a",), (("z", "m"), "a"), (("m", "m", "z"), "a"), (["a"], "m"), ("a", "m"), (("a",), "z"),
                      (("a",), "m", 3), ((), "z", 0), (("x",), "m"), (None, None), ((), ())]:
            self.assertIs(value in table, False, value)
            self.assertEqual(error_of(lambda one=value: table[one]), ("NoRequest", value))

    def test_proper_and_self_requests(self):
        table = Requests(LOCKS, ROWS)
        self.assertEqual(proper_requests(table), ((("m", "z"), "a"), (("a",), "m")))
        self.assertEqual(self_requests(table), ((("a",), "a"),))

    def test_wrong_locks(self):
        for value in ODD_VALUES + ("b", 0):
            for rows in ([((value,), "none", 1)], [(("a", value, "none"), "a", 1)], [(["z"], value, 1)],
                         ROWS + [((), value, 1), (("none",), "a", 1)]):
                self.assertEqual(error_of(Requests, LOCKS, rows), ("NoSuch", value))
        self.assertEqual(error_of(Requests, (), [((), "a", 1)]), ("NoSuch", "a"))

    def test_a_list_that_changes_later_changes_nothing(self):
        locks, held = list(LOCKS), ["z", "m"]
        rows = [(held, "a", 4)]
        table = Requests(locks, rows)
        told = (list(table), table.locks)
        locks.pop()
        held.pop()
        rows.append(((), "a", 1))
        self.assertEqual((list(table), table.locks, table[("m", "z"), "a"]), told + (4,))


class JoinTest(unittest.TestCase):
    def test_join(self):
        one = Requests(LOCKS, [(("a",), "m", 4), ((), "z", 2)])
        two = Requests(list(LOCKS), [(("a",), "m", 3), ((), "z", 5), (("z",), "z", 1)])
        for joined in (one | two, two | one):
            self.assertIsInstance(joined, Requests)
            self.assertEqual([(row, joined[row]) for row in joined], [
                (((), "z"), 2), ((("a",), "m"), 3), ((("z",), "z"), 1)])
        self.assertEqual(([one[row] for row in one], len(two)), ([2, 4], 3))

    def test_unlike(self):
        one = Requests(LOCKS, [])
        for locks in (("m", "z", "a"), ("m", "a"), LOCKS + ("b",), ()):
            self.assertEqual(error_of(lambda told=locks: one | Requests(told, [])), ("Unlike",))
            self.assertEqual(error_of(lambda told=locks: Requests(told, []) | one), ("Unlike",))

    def test_kept_to(self):
        table = Requests(LOCKS, ROWS)
        for locks in (["a", "m"], ("m", "a"), ["a", "m", "a"]):
            kept = table.kept_to(locks)
            self.assertEqual((kept.locks, [(row, kept[row]) for row in kept]), (
                ("m", "a"), [((("m",), "a"), 3), ((("a",), "m"), 10 ** 50), ((("a",), "a"), 7)]))
        self.assertEqual((len(table.kept_to([])), table.kept_to([]).locks), (0, ()))
        self.assertEqual(list(table.kept_to(["z"])), [((), "z")])
        self.assertEqual([table.kept_to(LOCKS)[row] for row in table], [table[row] for row in table])
        for value in ODD_VALUES + ("b", 0):
            self.assertEqual(error_of(table.kept_to, ["a", value, "none"]), ("NoSuch", value))

    def test_requests_that_become_one_have_the_least_length(self):
        table = Requests(("a", "b", "c"), [(("a", "c"), "b", 5), (("a",), "b", 8), (("c",), "b", 1), ((), "b", 9)])
        kept = table.kept_to(("a", "b"))
        self.assertEqual([(row, kept[row]) for row in kept], [(((), "b"), 1), ((("a",), "b"), 5)])


class OracleTest(unittest.TestCase):
    def check(self, table, locks, lengths):
        self.assertEqual(list(table), sorted(lengths, key=lambda one: key_of(locks, one)))
        self.assertEqual([table[one] for one in table], [lengths[one] for one in table])
        self.assertEqual((table.locks, len(table)), (locks, len(lengths)))
        self.assertEqual(list(proper_requests(table)), proper(locks, lengths))
        self.assertEqual(list(self_requests(table)), [one for one in table if one[1] in one[0]])

    def test_random_tables(self):
        rng = random.Random(61)
        for _ in range(500):
            locks, rows = random_table(rng)
            table, lengths = Requests(locks, rows), lengths_of(locks, rows)
            self.check(table, locks, lengths)
            more = random_rows(rng, locks, 6)
            self.check(table | Requests(locks, more), locks, lengths_of(locks, rows + more))
            some = [lock for lock in locks if rng.random() < 0.6]
            rng.shuffle(some)
            kept = [([lock for lock in held if lock in some], wanted, length) for held, wanted, length in rows
                    if wanted in some]
            self.check(table.kept_to(some), ordered(locks, some), lengths_of(ordered(locks, some), kept))
            self.check(table, locks, lengths)


if __name__ == "__main__":
    unittest.main()
