"""[33]: touches, and which are bare."""

import unittest

from handsroom.houses import House
from handsroom.records import Record, first_record
from handsroom.spreading import Spread
from handsroom.touches import bare_names, touched

TEXT = "\n".join([
    "lock a", "lock b", "kind box a n m", "kind bag - n", "kind cup b n",
    "body one box bag cup : box.m bag.n", "body two box box cup : +b cup.n", "body none box :",
    "routine r x:box y:box u:bag c:cup",
    "do read x n, write x m, keep x n, call one x u c, call two x y c, call none x, read u n, read c n",
    "do make x, copy x y, fetch x y, put x, skip, take a", "done"])
SPREAD = Spread(House.read(TEXT), "r")
FIRST = first_record(SPREAD)


class TouchTest(unittest.TestCase):
    def test_touched(self):
        steps = {point.step: touched(SPREAD, point.step) for point in SPREAD.points}
        want = {("read", "x", "n"): ("x",), ("write", "x", "m"): ("x",), ("read", "u", "n"): ("u",),
                ("read", "c", "n"): ("c",), ("call", "one", ("x", "u", "c"), ""): ("x", "u"),
                ("call", "two", ("x", "y", "c"), ""): ("c",)}
        for step, names in steps.items():
            self.assertEqual(names, want.get(step, ()), step)

    def test_each_name_once_in_the_order_of_the_step(self):
        text = "kind box - n\nbody two box box box : box.n\nroutine r x:box y:box\ndone"
        spread = Spread(House.read(text), "r")
        self.assertEqual(touched(spread, ("call", "two", ("y", "x", "y"), "")), ("y", "x"))
        self.assertEqual(touched(spread, ("call", "two", ("x", "x", "x"), "t")), ("x",))

    def bare(self, point, *locks, record=FIRST):
        return bare_names(SPREAD, (point, tuple((f"g{at}", lock) for at, lock in enumerate(locks))), record)

    def test_bare_names(self):
        self.assertEqual([self.bare(point) for point in range(8)], [
            ("x",), ("x",), (), ("x",), ("c",), (), (), ("c",)])
        self.assertEqual([self.bare(point, "a") for point in range(8)], [(), (), (), (), ("c",), (), (), ("c",)])
        self.assertEqual([self.bare(point, "b") for point in range(8)], [("x",), ("x",), (), ("x",), (), (), (), ()])
        own = Record(FIRST.blocks, ("x", "u"), ())
        self.assertEqual([self.bare(point, record=own) for point in range(8)], [(), (), (), (), ("c",), (), (), ("c",)])
        self.assertEqual(self.bare(0, record=Record(FIRST.blocks, ("y",), ())), ("x",))
        self.assertEqual([self.bare(point) for point in range(8, len(SPREAD))], [()] * (len(SPREAD) - 8))

    def test_two_bare_names(self):
        text = TEXT.replace("two box box cup : +b cup.n", "two box box cup : +b box.n cup.n")
        spread = Spread(House.read(text), "r")
        for locks, own, want in [("", (), ("x", "y", "c")), ("a", (), ("c",)), ("b", ("x",), ("y",)), ("ab", (), ())]:
            guards = tuple((lock, lock) for lock in locks)
            self.assertEqual(bare_names(spread, (4, guards), Record(FIRST.blocks, own, ())), want)


if __name__ == "__main__":
    unittest.main()
