"""[41] to [43]: marked records, what a step makes of them, and sorts that they lose."""

import random
import unittest

from random_houses import random_house, random_path, random_signature
from handsroom.houses import House
from handsroom.lonetable import locks_of
from handsroom.marks import Marked, first_marked, lost, marked_after
from handsroom.records import Record, record_after
from handsroom.runs import marked_records
from handsroom.spreading import Spread

TEXT = "\n".join([
    "lock a", "lock b", "kind box a n m", "kind bag - n", "kind cup b n",
    "body one : +a box.n bag.n", "body two box : box.n", "body mine box* : +a box.m",
    "routine r x:box b:bag y:box z:box", "done"])
SPREAD = Spread(House.read(TEXT), "r")
BLOCKS = (("x",), ("b",), ("y",), ("z",))
ALL = (("x", "n"), ("x", "m"), ("b", "n"), ("y", "n"), ("y", "m"), ("z", "n"), ("z", "m"))


def record(known=ALL, own=(), apart=(), blocks=BLOCKS):
    return Marked(blocks, own, apart, known)


def known_after(step, start, held=()):
    found = marked_after(SPREAD, held, start, step)
    assert type(found) is Marked and type(found.known) is tuple
    assert found.key()[:3] == record_after(SPREAD, start, step).key()
    return found.known


def without(*pairs):
    return tuple(pair for pair in ALL if pair not in pairs)


class ClassTest(unittest.TestCase):
    def test_fields_and_key(self):
        one = Marked(BLOCKS, ("x",), (("x", "y"),), (("x", "n"),))
        self.assertEqual((one.blocks, one.own, one.apart, one.known), (BLOCKS, ("x",), (("x", "y"),), (("x", "n"),)))
        self.assertEqual(one.key(), (one.blocks, one.own, one.apart, one.known))
        self.assertEqual([one.knows("x", "n"), one.knows("x", "m"), one.knows("y", "n")], [True, False, False])
        self.assertEqual(one.block_of("y"), ("y",))
        self.assertIsInstance(one, Record)
        self.assertFalse(one == Marked(*one.key()))

    def test_as_sure_as(self):
        more, less = record(), record(without(("b", "n")))
        self.assertIs(more.as_sure_as(less), True)
        self.assertIs(less.as_sure_as(more), False)
        self.assertIs(more.as_sure_as(more), True)
        self.assertIs(more.as_sure_as(record((), own=("x",))), False)
        self.assertIs(record(own=("x",)).as_sure_as(less), True)
        self.assertIs(more.as_sure_as(record((), apart=(("x", "y"),))), False)
        self.assertIs(more.as_sure_as(record((), blocks=(("x", "y"), ("b",), ("z",)))), False)

    def test_first(self):
        first = first_marked(SPREAD)
        self.assertIs(type(first), Marked)
        self.assertEqual(first.key(), (BLOCKS, (), (), ()))
        bare = Spread(House.read("kind k - n\nroutine r\ndone"), "r")
        self.assertEqual(first_marked(bare).key(), ((), (), (), ()))


class StepTest(unittest.TestCase):
    def test_make(self):
        self.assertEqual(known_after(("make", "x"), first_marked(SPREAD)), (("x", "n"), ("x", "m")))
        self.assertEqual(known_after(("make", "b"), record((("x", "m"),))), (("x", "m"), ("b", "n")))
        self.assertEqual(known_after(("make", "x"), record()), ALL)

    def test_copy(self):
        self.assertEqual(known_after(("copy", "x", "y"), record((("x", "n"), ("y", "m")))), (("x", "m"), ("y", "m")))
        self.assertEqual(known_after(("copy", "x", "y"), record((("x", "n"),))), ())
        both = (("x", "z"), ("b",), ("y",))
        same = (("x", "n"), ("z", "n"))
        self.assertEqual(known_after(("copy", "x", "z"), record(same, blocks=both)), same)
        self.assertEqual(known_after(("copy", "z", "x"), record(same, blocks=both)), same)
        self.assertEqual(known_after(("copy", "x", "x"), record()), ALL)

    def test_fetch(self):
        self.assertEqual(known_after(("fetch", "x", "y"), record()), without(("x", "n"), ("x", "m")))
        self.assertEqual(known_after(("fetch", "b"), record()), without(("b", "n")))
        self.assertEqual(known_after(("fetch", "x", "x"), record((("z", "m"),))), (("z", "m"),))

    def test_read(self):
        both = (("x", "z"), ("b",), ("y",))
        self.assertEqual(known_after(("read", "z", "m"), record((), blocks=both)), (("x", "m"), ("z", "m")))
        self.assertEqual(known_after(("read", "x", "n"), record((("y", "n"),))), (("x", "n"), ("y", "n")))
        self.assertEqual(known_after(("read", "b", "n"), record()), ALL)

    def test_write(self):
        self.assertEqual(known_after(("write", "x", "n"), record()), without(("y", "n"), ("z", "n")))
        self.assertEqual(known_after(("write", "x", "n"), record(apart=(("x", "y"),))), without(("z", "n")))
        self.assertEqual(known_after(("write", "x", "m"), record(())), (("x", "m"),))
        both = (("x", "z"), ("b",), ("y",))
        self.assertEqual(known_after(("write", "z", "n"), record((), blocks=both)), (("x", "n"), ("z", "n")))
        self.assertEqual(known_after(("write", "y", "n"), record(blocks=both)), without(("x", "n"), ("z", "n")))

    def test_other_steps(self):
        for step in [("skip",), ("keep", "x", "n"), ("put", "x"), ("take", "a", "0.0"), ("drop", "0.0"), ("stop", "")]:
            self.assertEqual(known_after(step, record(own=("x",))), ALL)
            self.assertEqual(known_after(step, record(())), ())

    def test_call_of_a_body_that_takes_the_lock(self):
        step = ("call", "one", (), "")
        bag, boxes = ("b", "n"), (("x", "n"), ("y", "n"), ("z", "n"))
        self.assertEqual(known_after(step, record()), without(bag, *boxes))
        self.assertEqual(known_after(step, record(own=("x", "z"))), without(bag, ("y", "n")))
        self.assertEqual(known_after(step, record(), held=("a",)), without(bag))
        self.assertEqual(known_after(step, record(), held=("b",)), without(bag, *boxes))
        # The bag is open, so no lock keeps the body from it; only an own one is safe.
        self.assertEqual(known_after(step, record(own=("b",)), held=("a", "b")), ALL)

    def test_call_with_a_name(self):
        step = ("call", "two", ("x",), "")
        self.assertEqual(known_after(step, record()), without(("x", "n"), ("y", "n"), ("z", "n")))
        self.assertEqual(known_after(step, record(), held=("a",)), without(("x", "n"), ("y", "n"), ("z", "n")))
        self.assertEqual(known_after(step, record(apart=(("x", "y"),))), without(("x", "n"), ("z", "n")))
        own = record(own=("x",), apart=(("x", "y"), ("x", "z")))
        self.assertEqual(known_after(step, own), without(("x", "n")))
        # This body cannot take the lock, so what no name passed may lead to stays.
        both = record(own=("x", "z"), apart=(("x", "y"), ("y", "z")), blocks=(("x", "z"), ("b",), ("y",)))
        self.assertEqual(known_after(step, both), without(("x", "n"), ("z", "n")))

    def test_own_and_relations_ahead_of_the_call_count(self):
        step = ("call", "mine", ("x",), "")
        own = record(own=("x", "y", "z"), apart=(("x", "y"), ("x", "z"), ("y", "z")))
        self.assertEqual(known_after(step, own), without(("x", "m")))
        self.assertEqual(known_after(step, record(own=("z",), apart=(("x", "z"), ("y", "z")))),
                         without(("x", "m"), ("y", "m")))

    def test_nothing_passed_is_changed(self):
        start = record(without(("y", "n")))
        for step in [("make", "x"), ("write", "x", "n"), ("call", "one", (), "")]:
            marked_after(SPREAD, (), start, step)
        self.assertEqual(start.key(), (BLOCKS, (), (), without(("y", "n"))))


class LostTest(unittest.TestCase):
    def test_lost(self):
        for sorts in ([("box", "n"), ("bag", "n")], (("bag", "n"), ("box", "n"), ("box", "n"))):
            found = lost(SPREAD, record(own=("y",)), sorts)
            self.assertIs(type(found), Marked)
            self.assertEqual(found.key(), (BLOCKS, ("y",), (), without(("x", "n"), ("b", "n"), ("z", "n"))))
        self.assertEqual(lost(SPREAD, record(), []).known, ALL)
        # A field of this name of another kind stays.
        self.assertEqual(lost(SPREAD, record(), [("box", "n")]).known, without(("x", "n"), ("y", "n"), ("z", "n")))
        self.assertEqual(lost(SPREAD, record(), [("bag", "n")]).known, without(("b", "n")))
        self.assertEqual(lost(SPREAD, record(), [("cup", "m"), ("box", "m")]).known,
                         without(("x", "m"), ("y", "m"), ("z", "m")))

    def test_lost_keeps_the_rest(self):
        start = record((("b", "n"),), own=("x",), apart=(("x", "y"),))
        self.assertEqual(lost(SPREAD, start, [("bag", "n")]).key(), (BLOCKS, ("x",), (("x", "y"),), ()))
        self.assertEqual(start.known, (("b", "n"),))


def as_sure(one, other):
    """[31] and [41], read again."""
    return one[0] == other[0] and all(set(more) >= set(less) for more, less in zip(one[1:], other[1:]))


class SurerTest(unittest.TestCase):
    def less_sure(self, rng, spread, full):
        """A record of which the one passed is as sure: some blocks are not own, some relations and marks are gone."""
        blocks = full.blocks
        own = [block for block in blocks if block[0] in full.own and rng.random() < 0.5]
        names = [name for block in own for name in block]
        pairs = {(x[0], y[0]) for x in blocks for y in blocks if rng.random() < 0.5}
        heads = {name: block[0] for block in blocks for name in block}
        apart = tuple(pair for pair in full.apart if tuple(heads[one] for one in pair) in pairs
                      and tuple(heads[one] for one in pair[::-1]) in pairs)
        kept = {(block[0], field) for block in blocks for field in "fg" if rng.random() < 0.5}
        known = tuple(pair for pair in full.known if (heads[pair[0]], pair[1]) in kept)
        return Marked(blocks, tuple(name for name in full.own if name in names), apart, known)

    def test_as_sure_behind_a_step(self):
        rng = random.Random(31)
        changed = 0
        for seed in range(400):
            house = random_house(seed, rows=8)
            spread = Spread(house, "r")
            path = random_path(rng, spread, 10)
            for (point, guards), full in zip(path, list(marked_records(spread, path))):
                less = self.less_sure(rng, spread, full)
                self.assertTrue(full.as_sure_as(less) and as_sure(full.key(), less.key()))
                step, held = spread.points[point].step, locks_of(guards)
                one, two = [marked_after(spread, held, start, step) for start in (full, less)]
                self.assertTrue(one.as_sure_as(two) and as_sure(one.key(), two.key()))
                changed += one.key() != two.key()
                sorts = [sort for sort in house.sorts if rng.random() < 0.5]
                self.assertTrue(lost(spread, full, sorts).as_sure_as(lost(spread, less, sorts)))
                fewer = tuple(lock for lock in held if rng.random() < 0.5)
                self.assertTrue(one.as_sure_as(marked_after(spread, fewer, full, step)))
        self.assertGreater(changed, 100)

    def test_behind_a_call_with_a_signature_within(self):
        rng = random.Random(32)
        seen = 0
        for seed in range(1500):
            house = random_house(seed, rows=8)
            for body, signature in house.bodies:
                other = random_signature(rng, house.hall, signature.places)
                if not other.alike(signature):
                    continue
                wide = house.with_signature(body, signature | other)
                one, two = Spread(house, "r"), Spread(wide, "r")
                path = random_path(rng, one, 8)
                for (point, guards), full in zip(path, list(marked_records(one, path))):
                    step = one.points[point].step
                    if step[:2] == ("call", body):
                        found = [marked_after(spread, locks_of(guards), full, step) for spread in (one, two)]
                        self.assertTrue(found[0].as_sure_as(found[1]))
                        seen += found[0].key() != found[1].key()
        self.assertGreater(seen, 3)


if __name__ == "__main__":
    unittest.main()
