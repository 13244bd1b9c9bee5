"""[98] to [100]: the report of a house, line by line."""

import unittest

from helpers import LARGE_HOUSE, TEXTS, error_of
from random_houses import busy_house, lock_house, random_house
from handsroom.errors import TooLarge
from handsroom.houses import House
from handsroom.lonetable import LoneTable
from handsroom.report import report
from handsroom.spreading import Spread
from handsroom.twohands import open_places
from handsroom.verdicts import Verdict


def words_of(step):
    words = []
    for part in step:
        words += part if isinstance(part, tuple) else [part]
    return " ".join(word for word in words if word)


def lines_again(house):
    """The lines of the report by a second reading."""
    lines, opened = [], open_places(house)
    for routine in house.routines:
        lines.append("routine " + routine.name)
        table = LoneTable(Spread(house, routine.name))
        for number, point in enumerate(table.spread.points):
            sets = {tuple(sorted(house.locks.index(lock) for _, lock in node[1])) for node in table.nodes if node[0] == number}
            held = "|".join("+".join(house.locks[at] for at in one) or "-" for one in sorted(sets)) or "none"
            last = "-"
            if point.step[0] in ("read", "keep"):
                last = "open" if (routine.name, point.row, point.deed) in opened else "fresh"
            lines.append(" ".join([str(number).rjust(3), words_of(point.step).ljust(20), held.ljust(10), last]))
    return lines + list(Verdict(house).lines())


class ReportTest(unittest.TestCase):
    def test_steps_held_sets_and_statuses(self):
        house = House.read("\n".join([
            "lock a", "lock b", "kind box a f", "kind bag - n", "body fill box bag : bag.n", "body lend : +a +b =a =b",
            "routine r x:box y:box u:bag", "either", "do take a as g", "close", "with call lend as h", "do fetch x y x",
            "do make y, read y f", "do call fill y u", "close", "do keep u n", "give h", "done"]))
        self.assertEqual(report(house).split("\n")[:-5], [
            "routine r",
            "  0 skip                 -          -",
            "  1 take a g             -          -",
            "  2 drop g               a          -",
            "  3 call lend h          -          -",
            "  4 fetch x y x          a|b        -",
            "  5 make y               a|b        -",
            "  6 read y f             a|b        fresh",
            "  7 call fill y u        a|b        -",
            "  8 keep u n             a|b        open",
            "  9 stop h               a|b        -"])

    def test_points_without_a_node_and_several_held_sets(self):
        house = House.read("lock a\nlock b\nkind k - n\nroutine r\neither\ndo take a as g\nor\ndo take b as h\nclose\n"
                           "do take b as i\ndo take b, skip\ndone")
        lines = report(house).split("\n")
        self.assertEqual(lines[1:11], [
            "  0 skip                 -          -",
            "  1 take a g             -          -",
            "  2 drop g               a          -",
            "  3 take b h             -          -",
            "  4 drop h               b          -",
            "  5 take b i             -          -",
            "  6 take b 6.0           b          -",
            "  7 skip                 none       -",
            "  8 drop 6.0             none       -",
            "  9 drop i               none       -"])

    def test_nothing_is_cut(self):
        house = House.read("lock longlock\nlock b\nkind longkind longlock longfeld\nbody longbody longkind longkind : +b\n"
                           "routine r longname:longkind\nwith take b, take longlock as longtag\n"
                           "do write longname longfeld, call longbody longname longname\nclose\ndone")
        lines = report(house).split("\n")
        self.assertEqual(lines[1:5], [
            "  0 take b 0.0           -          -",
            "  1 take longlock longtag b          -",
            "  2 write longname longfeld longlock+b -",
            "  3 call longbody longname longname longlock+b -"])

    def test_an_empty_routine(self):
        house = House.read("kind k - n\nroutine r\ndone\nroutine s x:k\ndo read x n\ndone")
        self.assertEqual(report(house), "\n".join([
            "routine r", "  0 stop                 -          -", "routine s", "  0 read x n             -          open",
            "  1 stop                 -          -", "nests: yes", "bare: no", "stale: no", "ring: no", "right: yes"]))

    def test_the_lines_of_the_verdict(self):
        house = House.read("lock a\nkind box a f\nroutine r x:box\ndo keep x f\nwith take a\ndo take a\nclose\ndo read x f\ndone")
        self.assertEqual(report(house).split("\n")[-6:], [
            "nests: yes", "bare: no", "stale: hands 1, length 0, routine r, point 0", "ring: hands 1, length 2",
            "  holds a, wants a", "right: no"])
        house = House.read("lock a\nlock b\nkind k - n\nroutine r\ndo take a as g\ndo take b as h\ndrop g\ndone")
        self.assertEqual(report(house).split("\n")[-5:], [
            "nests: no, routine r, length 2", "bare: no", "stale: no", "ring: not decided", "right: no"])

    def test_more_than_ten_points(self):
        house = House.read("kind k - n\nroutine r\ndo " + ", ".join(["skip"] * 24) + "\ndone")
        lines = report(house).split("\n")
        self.assertEqual((lines[10][:8], lines[11][:8], lines[25][:8]), ("  9 skip", " 10 skip", " 24 stop"))

    def test_tables_that_are_too_large(self):
        self.assertEqual(error_of(report, House.read(LARGE_HOUSE)), ("TooLarge", "spots"))

    def test_against_a_second_reading(self):
        checked = 0
        houses = [House.read(text) for text in TEXTS] + [random_house(seed, rows=7, routines=2) for seed in range(60)]
        houses += [busy_house(seed, rows=6) for seed in range(60)] + [lock_house(seed) for seed in range(40)]
        for house in houses:
            try:
                found = report(house)
            except TooLarge:
                continue
            self.assertEqual(found, "\n".join(lines_again(house)))
            checked += 1
        self.assertGreater(checked, 120)


if __name__ == "__main__":
    unittest.main()
