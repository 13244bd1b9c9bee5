"""[87]: houses that can be judged apart, against their sum."""

import unittest

from helpers import LARGE_HOUSE, error_of
from random_houses import busy_house, careless_house, nested_house
from test_needs import rows_of
from handsroom.apartness import common_locks, fall_apart
from handsroom.changing import alone
from handsroom.cycles import request_cycles
from handsroom.errors import TooLarge, Unlike
from handsroom.houses import House
from handsroom.needs import requests_of
from handsroom.twohands import open_places
from handsroom.verdicts import Verdict, bare_places
from handsroom.writers import writer_sets

HEAD = "lock a\nlock b\nlock c\nkind box a f g\nkind bag - f\nbody hit : +b\nbody fill box : box.g\n"


def house_of(*rows, name="r", names="x:box u:bag"):
    return House.read(HEAD + "\n".join((f"routine {name} {names}",) + rows + ("done",)))


class LocksTest(unittest.TestCase):
    def test_common_locks(self):
        one = house_of("with take a", "do take b", "close")
        self.assertEqual(common_locks(one, house_of("do take c, take b, take a")), ("a", "b"))
        self.assertEqual(common_locks(one, house_of("do take c")), ())
        # Locks that a body may want count as well.
        self.assertEqual(common_locks(one, house_of("do take c, call hit")), ("b",))
        self.assertEqual(common_locks(house_of("do call fill x"), one), ())
        self.assertEqual(common_locks(one, one), ("a", "b"))
        self.assertEqual(common_locks(house_of("do skip, take c, take a"), house_of("with take c", "do take a", "close")), ("a", "c"))

    def test_takes_that_are_never_reached(self):
        house = house_of("with take a", "with take a", "do take c", "close", "close")
        self.assertEqual(common_locks(house, house_of("do take c, take a")), ("a",))

    def test_halls_that_are_not_equal(self):
        one, other = house_of("do skip"), House.read("lock a\nkind k - n\nroutine r\ndone")
        for ask in (common_locks, fall_apart):
            self.assertEqual(error_of(ask, one, other), ("Unlike",))
            self.assertEqual(error_of(ask, other, one), ("Unlike",))
            with self.assertRaises(Unlike):
                ask(one, other)
        # Bodies play no part.
        other = House.read(house_of("do skip").text().replace("body hit : +b\n", ""))
        self.assertEqual((common_locks(one, other), fall_apart(one, other)), ((), True))


class ApartTest(unittest.TestCase):
    def both(self, one, other):
        found = fall_apart(one, other)
        self.assertIs(fall_apart(other, one), found)
        return found

    def test_locks_in_common(self):
        one = house_of("do take a, take b")
        self.assertIs(self.both(one, house_of("do take c")), True)
        self.assertIs(self.both(one, house_of("do take c, take b")), True)
        self.assertIs(self.both(one, house_of("do take b, take a")), False)

    def test_numbers_that_the_other_one_shows(self):
        for demand in ("read x f", "keep x f"):
            shows = house_of("do " + demand)
            self.assertIs(self.both(shows, house_of("do write x f")), False)
            self.assertIs(self.both(shows, house_of("do write x g, write u f")), True)
            self.assertIs(self.both(shows, house_of("do make x, write x f")), True)
            self.assertIs(self.both(shows, house_of("do call fill x")), True)
        self.assertIs(self.both(house_of("do keep x g"), house_of("do call fill x")), False)
        # What a house itself writes is no matter.
        self.assertIs(self.both(house_of("do read x f, write x f"), house_of("do skip")), True)
        self.assertIs(self.both(house_of("do read x f, write x f"), house_of("do write x g")), True)

    def test_demands_that_are_never_reached(self):
        """The read stands in a row, so it counts."""
        shows = house_of("with take a", "do take a, read x f", "close")
        self.assertIs(self.both(shows, house_of("do write x f")), False)

    def test_tables_that_are_too_large(self):
        house = House.read(LARGE_HOUSE)
        self.assertEqual(error_of(fall_apart, house, house), ("TooLarge", "spots"))
        # Also where something else tells already that they do not fall apart.
        other = House.read("lock a\nkind k - n\nroutine s x:k\ndo write x n\ndone")
        for one, two in ((house, other), (other, house)):
            self.assertEqual(error_of(fall_apart, one, two), ("TooLarge", "spots"))
        self.assertEqual(common_locks(house, house), ())

    def pairs(self):
        """Pairs of houses with one hall and the same bodies."""
        for seed in range(260):
            if seed % 4 == 0:
                house = nested_house(seed, locks=4, routines=2)
            else:
                house = (careless_house if seed % 4 == 1 else busy_house)(seed)
            first, second = [routine.name for routine in house.routines]
            yield alone(house, [first]), alone(house, [second])

    def test_against_the_definition(self):
        counts = {True: 0, False: 0}
        for one, other in self.pairs():
            locks = [{lock for held, wanted in requests_of(house) for lock in held + (wanted,)} for house in (one, other)]
            clear = len(locks[0] & locks[1]) <= 1
            self.assertEqual(common_locks(one, other), tuple(lock for lock in one.locks if lock in locks[0] & locks[1]))
            for writer, reader in ((one, other), (other, one)):
                for routine in reader.routines:
                    for row in routine.rows:
                        for deed in row.deeds:
                            if deed[0] in ("read", "keep"):
                                clear = clear and writer_sets(writer, routine.kind_of(deed[1]), deed[2]) == ()
            self.assertIs(self.both(one, other), clear)
            counts[clear] += 1
        self.assertGreater(min(counts.values()), 50)

    def test_what_holds_for_the_sum(self):
        checked = [0, 0, 0]
        for one, other in self.pairs():
            whole = one + other
            table, mine, others = requests_of(whole), requests_of(one), requests_of(other)
            self.assertEqual(rows_of(table), rows_of(mine | others))
            if len(common_locks(one, other)) <= 1:
                for hands in (2, 3):
                    both = set(request_cycles(mine, hands=hands)) | set(request_cycles(others, hands=hands))
                    self.assertEqual(set(request_cycles(table, hands=hands)), both)
                    checked[0] += both != set()
            if not fall_apart(one, other):
                continue
            try:
                for ask in (bare_places, open_places):
                    self.assertEqual(ask(whole), ask(one) + ask(other))
                verdicts = [Verdict(house).is_right for house in (one, other)]
                self.assertIs(Verdict(whole).is_right, all(verdicts))
            except TooLarge:
                continue
            checked[1 + all(verdicts)] += 1
        self.assertGreater(min(checked), 5, checked)


if __name__ == "__main__":
    unittest.main()
