"""[31], [32], [37]: records and what a step makes of them."""

import random
import unittest

from random_houses import random_house, random_path
from run_oracle import endings, kinds_of
from handsroom.houses import House
from handsroom.records import Record, first_record, record_after, records, relation
from handsroom.spreading import Spread

TEXT = "\n".join([
    "lock a", "kind box a n", "kind bag - n", "body plain box bag : box.n", "body share box* bag box* :",
    "routine r x:box b:bag y:box z:box", "done"])
SPREAD = Spread(House.read(TEXT), "r")
FIRST = ((("x",), ("b",), ("y",), ("z",)), (), ())


def after(*steps, record=None):
    """The key of the record behind some steps."""
    record = record or first_record(SPREAD)
    for step in steps:
        record = record_after(SPREAD, record, step)
        for part in record.key():
            assert isinstance(part, tuple) and all(isinstance(one, (tuple, str)) for one in part)
    return record.key()


class RecordTest(unittest.TestCase):
    def test_the_class(self):
        record = Record((("x", "z"), ("y",)), ("x", "z"), (("x", "y"), ("y", "z")))
        self.assertEqual((record.blocks, record.own), ((("x", "z"), ("y",)), ("x", "z")))
        self.assertEqual(record.apart, (("x", "y"), ("y", "z")))
        self.assertEqual(record.key(), (record.blocks, record.own, record.apart))
        self.assertEqual([record.block_of(name) for name in "xyz"], [("x", "z"), ("y",), ("x", "z")])
        self.assertFalse(record == Record(*record.key()))

    def test_as_sure_as(self):
        blocks = (("x",), ("y",), ("z",))
        own = Record(blocks, ("x",), (("x", "y"),))
        self.assertIs(own.as_sure_as(own), True)
        self.assertIs(own.as_sure_as(Record(blocks, (), ())), True)
        self.assertIs(own.as_sure_as(Record(blocks, ("x",), ())), True)
        self.assertIs(Record(blocks, (), (("x", "y"),)).as_sure_as(own), False)
        self.assertIs(Record(blocks, ("x",), (("x", "z"),)).as_sure_as(own), False)
        self.assertIs(own.as_sure_as(Record((("x", "z"), ("y",)), (), ())), False)
        self.assertIs(Record(blocks, ("x", "y"), (("x", "y"), ("x", "z"))).as_sure_as(own), True)

    def test_first(self):
        self.assertEqual(first_record(SPREAD).key(), FIRST)
        bare = Spread(House.read("kind k - n\nroutine r\ndone"), "r")
        self.assertEqual(first_record(bare).key(), ((), (), ()))
        self.assertEqual(record_after(bare, first_record(bare), ("stop", "")).key(), ((), (), ()))

    def test_make(self):
        self.assertEqual(after(("make", "y")), (FIRST[0], ("y",), (("x", "y"), ("y", "z"))))
        self.assertEqual(after(("make", "b")), (FIRST[0], ("b",), ()))
        self.assertEqual(after(("make", "y"), ("make", "x")), (
            FIRST[0], ("x", "y"), (("x", "y"), ("x", "z"), ("y", "z"))))
        self.assertEqual(after(("copy", "z", "x"), ("make", "x")), (FIRST[0], ("x",), (("x", "y"), ("x", "z"))))

    def test_copy(self):
        joined = ((("x", "z"), ("b",), ("y",)), (), ())
        self.assertEqual(after(("copy", "z", "x")), joined)
        self.assertEqual(after(("copy", "x", "z")), joined)
        self.assertEqual(after(("copy", "x", "x")), FIRST)
        self.assertEqual(after(("copy", "z", "x"), ("copy", "x", "z")), joined)
        self.assertEqual(after(("make", "y"), ("copy", "x", "y")), (
            (("x", "y"), ("b",), ("z",)), ("x", "y"), (("x", "z"), ("y", "z"))))
        # The marks of y count, not those that x had.
        self.assertEqual(after(("make", "x"), ("copy", "x", "y")), ((("x", "y"), ("b",), ("z",)), (), ()))
        self.assertEqual(after(("make", "z"), ("copy", "x", "y")), (
            (("x", "y"), ("b",), ("z",)), ("z",), (("x", "z"), ("y", "z"))))

    def test_fetch(self):
        self.assertEqual(after(("fetch", "x")), FIRST)
        self.assertEqual(after(("fetch", "x", "y")), (FIRST[0], (), (("x", "y"),)))
        self.assertEqual(after(("fetch", "x", "x")), FIRST)
        self.assertEqual(after(("copy", "z", "x"), ("fetch", "x", "x")), (FIRST[0], (), (("x", "z"),)))
        self.assertEqual(after(("copy", "z", "y"), ("fetch", "x", "y")), (
            (("x",), ("b",), ("y", "z")), (), (("x", "y"), ("x", "z"))))
        # It is apart from what is own, and is not own itself.
        self.assertEqual(after(("make", "y"), ("fetch", "y")), FIRST)
        self.assertEqual(after(("make", "y"), ("copy", "x", "y"), ("fetch", "y")), (
            FIRST[0], ("x",), (("x", "y"), ("x", "z"))))
        self.assertEqual(after(("make", "y"), ("put", "y"), ("fetch", "x")), (FIRST[0], (), (("y", "z"),)))

    def test_put_and_call(self):
        made = (("make", "y"), ("copy", "x", "y"), ("make", "z"))
        blocks, apart = (("x", "y"), ("b",), ("z",)), (("x", "z"), ("y", "z"))
        self.assertEqual(after(*made), (blocks, ("x", "y", "z"), apart))
        self.assertEqual(after(*made, ("put", "x")), (blocks, ("z",), apart))
        self.assertEqual(after(*made, ("call", "share", ("z", "b", "x"), "")), (blocks, (), apart))
        self.assertEqual(after(*made, ("call", "share", ("z", "b", "z"), "")), (blocks, ("x", "y"), apart))
        self.assertEqual(after(*made, ("call", "plain", ("x", "b"), "")), (blocks, ("x", "y", "z"), apart))
        self.assertEqual(after(("make", "b"), ("call", "share", ("z", "b", "z"), "")), (FIRST[0], ("b",), ()))

    def test_other_steps_change_nothing(self):
        record = Record((("x", "z"), ("b",), ("y",)), ("y",), (("x", "y"), ("y", "z")))
        for step in [("skip",), ("read", "x", "n"), ("keep", "y", "n"), ("write", "y", "n"), ("take", "a", "0.0"),
                     ("drop", "0.0"), ("stop", ""), ("put", "x"), ("copy", "x", "z")]:
            found = record_after(SPREAD, record, step)
            self.assertEqual(found.key(), record.key())
            self.assertIs(type(found), Record)
        self.assertEqual(record.key(), ((("x", "z"), ("b",), ("y",)), ("y",), (("x", "y"), ("y", "z"))))

    def test_a_record_of_a_class_below_gives_a_record(self):
        class Below(Record):
            pass
        for step in [("skip",), ("make", "x"), ("copy", "x", "x"), ("copy", "x", "y"), ("fetch", "x"), ("put", "x")]:
            self.assertIs(type(record_after(SPREAD, Below(*FIRST), step)), Record)

    def test_relation(self):
        record = Record((("x", "z"), ("b",), ("y",)), (), (("x", "y"), ("y", "z")))
        names = "xbyz"
        want = {"xx": "same", "xz": "same", "xy": "apart", "zy": "apart", "xb": "apart", "yb": "apart", "bb": "same",
                "zb": "apart", "yy": "same", "zz": "same"}
        for x in names:
            for y in names:
                self.assertEqual(relation(SPREAD, record, x, y), want.get(x + y) or want[y + x])
        self.assertEqual(relation(SPREAD, first_record(SPREAD), "z", "x"), "maybe")


class TruthTest(unittest.TestCase):
    def test_records_are_those_of_all_runs(self):
        """[37], and that a record says all that holds in each run, by trying all runs."""
        rng = random.Random(13)
        looked = 0
        for seed in range(700):
            spread = Spread(random_house(seed, rows=8), "r")
            path = random_path(rng, spread, 12)
            while sum(spread.points[node[0]].step[0] == "fetch" for node in path[:-1]) > 3:
                path.pop()
            found = list(records(spread, path))
            self.assertEqual(len(found), len(path))
            self.assertEqual(found[0].key(), first_record(spread).key())
            for at, node in enumerate(path[:-1]):
                step = spread.points[node[0]].step
                self.assertEqual(found[at + 1].key(), record_after(spread, found[at], step).key())
            names = list(kinds_of(spread))
            ends = endings(spread, path)
            looked += len(ends)
            for i, x in enumerate(names):
                self.assertEqual({led[i] in own for led, own in ends} or {x in found[-1].own}, {x in found[-1].own})
                for j, y in enumerate(names):
                    same = {led[i] == led[j] for led, _ in ends}
                    want = {"same": {True}, "apart": {False}, "maybe": {True, False}}
                    self.assertEqual(same, want[relation(spread, found[-1], x, y)])
        self.assertGreater(looked, 3000)

    def test_records_is_a_generator_over_lists_and_tuples(self):
        path = [(0, ())]
        self.assertEqual([one.key() for one in records(SPREAD, path)], [FIRST])
        self.assertEqual([one.key() for one in records(SPREAD, tuple(path))], [FIRST])
        self.assertTrue(hasattr(records(SPREAD, path), "send"))


if __name__ == "__main__":
    unittest.main()
