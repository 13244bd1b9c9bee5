"""[84], [85]: quiet points, free rows and the early house, against a second reading and against short weavings."""

import random
import unittest

from floor_oracle import random_firsts
from helpers import LARGE_HOUSE, ODD_VALUES, TEXTS, THING, error_of
from lone_oracle import Wanderer
from random_houses import SHARE_WORDS, TAIL_WORDS, busy_house, careless_house, lock_house, random_house
from run_oracle import levels
from test_carrying import CarryCheck, Second, random_weaving
from walk_oracle import tree_of
from woven_oracle import Woven
from handsroom.bareness import is_settled
from handsroom.carrying import carried_early
from handsroom.changing import ending
from handsroom.errors import NoSuch, NoTag, TooLarge
from handsroom.houses import House
from handsroom.needs import requests_of
from handsroom.nesting import house_nests
from handsroom.replay import replay
from handsroom.rings import least_ring
from handsroom.routines import each_deed
from handsroom.rows import Row
from handsroom.spreading import Spread
from handsroom.tails import early_house, free_rows
from handsroom.twohands import open_places
from handsroom.verdicts import bare_places

HEAD = "lock a\nlock b\nkind box a f\nkind bag - f\nbody lend : +a =a\nbody hit box : box.f\nroutine r x:box y:box u:bag\n"


def house_of(*rows):
    return House.read(HEAD + "\n".join(rows + ("done",)))


def part_of(rows, row):
    """The pair (rows that stand in the part of a row, row that ends it), from the tree of the rows."""
    nodes, end = tree_of(rows)
    pending = [(nodes, end)]
    while pending:
        part, ending_row = pending.pop()
        if row in [node[0] for node in part]:
            return [node[0] for node in part], ending_row
        for _, first, middle, second, closing in part:
            if first is not None:
                pending.append((first, closing if middle is None else middle))
            if second is not None:
                pending.append((second, closing))
    raise AssertionError(row)


def free_again(house, name, guard):
    """The free rows by a second reading; None if there are too many lone runs to try."""
    spread = Spread(house, name)
    rows = house.routine_of(name).rows
    if any(row.word in ("drop", "give") and row.guard == guard for row in rows):
        return ()
    world = Wanderer(spread, 4000)
    if not world.is_whole:
        return None
    loud = set()
    for state in world.states:
        step = world.step(state)
        if step[0] in ("read", "write", "keep") and not world.is_own(state, step[1]):
            loud.add(state[0][0])
    for at, point in enumerate(spread.points):
        if point.step[0] in ("fetch", "call", "take", "drop", "stop"):
            loud.add(at)
    maker_row = [number for number, _, deed in each_deed(house.routine_of(name)) if deed[-2:] == ("as", guard)][0]
    part, end = part_of(rows, maker_row)
    found = []
    for row in part:
        if row <= maker_row:
            continue
        first = spread.first_point(row)
        crossed = [tags for tags in ([tag for tag, _ in node[1]] for node in levels(spread) if node[0] == first)
                   if guard in tags and tags[-1] != guard]
        if not crossed and not [at for at in loud if row <= spread.points[at].row < end]:
            found.append(row)
    return tuple(found)


def early_again(house):
    """The early house by a second reading, None if there are too many lone runs."""
    for routine in house.routines:
        guards = [deed[-1] for _, _, deed in each_deed(routine) if deed[0] in ("take", "call") and deed[-2] == "as"]
        for guard in guards[::-1]:
            rows = house.routine_of(routine.name).rows
            free = free_again(house, routine.name, guard)
            if free is None:
                return None
            deeds = sum(len(row.deeds) + (row.word == "drop") for row in rows)
            if free and len(rows) < 24 and deeds < 24:
                told = rows[:free[0]] + (Row("drop", guard=guard),) + rows[free[0]:]
                house = house.with_rows(routine.name, told)
    return house


def houses_with_names(many):
    found = [House.read(text) for text in TEXTS]
    found += [random_house(seed, rows=8, routines=2) for seed in range(many)]
    found += [random_house(seed, rows=8, words=SHARE_WORDS + ("take",) * 4) for seed in range(many)]
    found += [lock_house(seed, rows=6) for seed in range(many)] + [busy_house(seed, rows=7) for seed in range(many)]
    return found + [busy_house(seed, rows=8, words=TAIL_WORDS, named=0.95) for seed in range(3 * many)]


def counted_as(house, other):
    """For each row of the house its number in the early house, by routine."""
    found = {}
    for routine in house.routines:
        rows, at = other.routine_of(routine.name).rows, 0
        numbers = []
        for row in routine.rows:
            while rows[at] != row:
                at += 1
            numbers.append(at)
            at += 1
        found[routine.name] = numbers
    return found


class FreeRowsTest(unittest.TestCase):
    def rows(self, *rows):
        found = free_rows(house_of(*rows), "r", "g")
        self.assertEqual(found, free_again(house_of(*rows), "r", "g"))
        return found

    def test_quiet_steps(self):
        self.assertEqual(self.rows("do take a as g", "do skip", "do make x", "do copy y x", "do put y"), (1, 2, 3, 4))
        self.assertEqual(self.rows("do take a as g", "do make x", "do read x f, write x f, keep x f"), (1, 2))
        self.assertEqual(self.rows("do take a as g", "do skip"), (1,))
        self.assertEqual(self.rows("do take a as g"), ())

    def test_steps_that_are_not_quiet(self):
        for deed in ("read x f", "write x f", "keep x f", "fetch x", "call hit x", "call hit y", "call lend", "take b",
                     "read u f"):
            self.assertEqual(self.rows("do take a as g", "do skip", "do " + deed, "do skip"), (3,))
            self.assertEqual(self.rows("do take a as g", "do skip", "do skip, " + deed), ())
        # A call is never quiet, also with own objects.
        self.assertEqual(self.rows("do make x", "do take a as g", "do call hit x"), ())

    def test_names_that_are_own_at_some_spots(self):
        self.assertEqual(self.rows("either", "do make x", "close", "do take a as g", "do read x f", "do skip"), (5,))
        self.assertEqual(self.rows("do make x", "do take a as g", "do put x", "do read x f", "do skip"), (4,))

    def test_points_that_are_never_reached(self):
        self.assertEqual(self.rows("do take a as g", "block", "do take a as h", "do skip", "close", "do read x f", "do skip"), (5, 6))

    def test_rows_of_the_same_part(self):
        self.assertEqual(self.rows("either", "do take a as g", "block", "do skip", "close", "or", "do skip", "close", "do skip"), (2,))
        self.assertEqual(self.rows("do take a as g", "either", "do skip", "or", "do skip", "close", "do skip"), (1, 6))
        self.assertEqual(self.rows("do take a as g", "either", "do skip", "or", "do read x f", "close", "do skip"), (6,))
        # A with row whose guard has a name: its block is not the part of the guard.
        self.assertEqual(self.rows("with take a as g", "do skip", "close", "do skip"), (3,))

    def test_rows_that_go_on_to_the_end_row(self):
        """Of a part in a block; what comes behind it does not count."""
        self.assertEqual(self.rows("block", "do take a as g", "do skip", "close", "do read x f"), (2,))
        self.assertEqual(self.rows("repeat", "do take a as g", "do skip", "close", "do read x f"), (2,))

    def test_rows_with_drops(self):
        """A drop is not quiet, so a free row lies behind the last row with one."""
        self.assertEqual(self.rows("do take a as g", "do take b as h", "drop h", "do skip"), (3,))
        self.assertEqual(self.rows("do take a as g", "do skip", "block", "do take b", "close", "do skip"), (5,))
        self.assertEqual(self.rows("do take a as g", "do skip", "with take b", "do skip", "close", "do skip"), (5,))

    def test_a_guard_that_is_not_the_last_one(self):
        self.assertEqual(self.rows("do take a as g", "do take b as h", "do skip"), ())
        self.assertEqual(self.rows("do take b as h", "do take a as g", "do skip"), (2,))
        self.assertEqual(self.rows("do take a as g", "either", "do take b as h", "close", "do skip"), (4,))
        self.assertEqual(self.rows("do take a as g", "do take b as h", "do skip", "give h"), ())

    def test_a_give_row_of_another_guard(self):
        found = self.rows("do take b as h", "do take a as g", "do skip", "give h")
        self.assertEqual(found, (2, 3))

    def test_guards_that_rows_name(self):
        self.assertEqual(self.rows("do take a as g", "do skip", "drop g", "do skip"), ())
        self.assertEqual(self.rows("do take a as g", "do skip", "give g"), ())
        self.assertEqual(self.rows("do take a as g", "either", "drop g", "close", "do skip"), ())
        self.assertEqual(self.rows("do call lend as g", "do skip"), (1,))

    def test_errors(self):
        house = house_of("do take a as g, take b", "do skip", "do make x, read x f", "do take b as h", "drop h")
        for value in list(ODD_VALUES) + [THING, "x", "g"]:
            self.assertEqual(error_of(free_rows, house, value, "zz"), ("NoSuch", value))
        for value in list(ODD_VALUES) + [THING, "x", "0.1", "a", "r", ["g"]]:
            self.assertEqual(error_of(free_rows, house, "r", value), ("NoTag", value))
        self.assertEqual(free_rows(house, "r", "h"), ())
        self.assertEqual(error_of(free_rows, House.read(LARGE_HOUSE), "r", "g"), ("NoTag", "g"))
        for call, error in ((lambda: free_rows(house, "q", "g"), NoSuch), (lambda: free_rows(house, "r", "q"), NoTag)):
            with self.assertRaises(error):
                call()

    def test_against_a_second_reading(self):
        counts = [0, 0]
        for house in houses_with_names(60):
            for routine in house.routines:
                for guard in [guard for row in routine.rows for guard in row.guards]:
                    want = free_again(house, routine.name, guard)
                    if want is None:
                        continue
                    try:
                        found = free_rows(house, routine.name, guard)
                    except TooLarge:
                        continue
                    self.assertEqual(found, want)
                    counts[want != ()] += 1
                    self.check_last_ones(house, routine, guard, found)
        self.assertGreater(min(counts), 60)

    def check_last_ones(self, house, routine, guard, found):
        maker_row = [number for number, row in enumerate(routine.rows) if guard in row.guards][0]
        part = [row for row in part_of(routine.rows, maker_row)[0] if row > maker_row]
        self.assertEqual(found, tuple(part[len(part) - len(found):]))


class EarlyHouseTest(CarryCheck, unittest.TestCase):
    def rows(self, *rows):
        found = early_house(house_of(*rows))
        self.assertEqual(found, early_again(house_of(*rows)))
        self.assertEqual(early_house(found), found)
        return [row.text() for row in found.routine_of("r").rows]

    def test_drops_ahead_of_the_first_free_rows(self):
        self.assertEqual(self.rows("do take a as g", "do read x f", "do skip", "do skip"),
                         ["do take a as g", "do read x f", "drop g", "do skip", "do skip"])
        self.assertEqual(self.rows("do take a as g", "do read x f"), ["do take a as g", "do read x f"])

    def test_the_last_maker_comes_first(self):
        """Only with the drop of the later guard the earlier one is the last one there."""
        self.assertEqual(self.rows("do take a as g", "do take b as h", "do skip", "do skip"),
                         ["do take a as g", "do take b as h", "drop h", "drop g", "do skip", "do skip"])
        self.assertEqual(self.rows("do take a as g, take b as h", "do skip"), ["do take a as g, take b as h", "drop h", "drop g", "do skip"])
        self.assertEqual(self.rows("do take a as g", "either", "do take b as h", "do skip", "close", "do make x"),
                         ["do take a as g", "either", "do take b as h", "drop h", "do skip", "close", "drop g", "do make x"])

    def test_guards_without_a_name(self):
        rows = ["with take a", "do skip", "close", "do take b", "do skip"]
        self.assertEqual(self.rows(*rows), rows)

    def test_bounds(self):
        rows = ["do take a as g", "do skip"] + ["do skip"] * 20
        self.assertEqual(len(self.rows(*rows)), 23)
        # 24 rows.
        rows = ["do take a as g", "do skip"] + ["block", "close"] * 11
        self.assertEqual(self.rows(*rows), rows)
        self.assertEqual(len(self.rows(*rows[:-2] + ["do skip"])), 24)
        # 24 deeds.
        rows = ["do take a as g", "do " + ", ".join(["skip"] * 23)]
        self.assertEqual(self.rows(*rows), rows)
        rows = ["do take a as g", "do " + ", ".join(["skip"] * 22)]
        self.assertEqual(self.rows(*rows), [rows[0], "drop g", rows[1]])
        # Only the later one of two drops finds place.
        rows = ["do take a as g", "do take b as h", "do " + ", ".join(["skip"] * 21)]
        self.assertEqual(self.rows(*rows), rows[:2] + ["drop h"] + rows[2:])

    def test_each_routine(self):
        text = HEAD + "do take a as g\ndo skip\ndone\nroutine s\ndo take b as g\ndo skip\ndone"
        found = early_house(House.read(text))
        self.assertEqual(found.text(), text.replace("as g\ndo skip", "as g\ndrop g\ndo skip"))

    def test_a_house_that_does_not_change(self):
        for text in ("kind k - n\nroutine r\ndone", HEAD + "done"):
            self.assertEqual(early_house(House.read(text)).text(), text)

    def test_against_a_second_reading(self):
        changed = 0
        for house in houses_with_names(60):
            try:
                found = early_house(house)
            except TooLarge:
                continue
            want = early_again(house)
            if want is None:
                continue
            self.assertEqual(found.text(), want.text())
            self.assertEqual(early_house(found), found)
            changed += found != house
        self.assertGreater(changed, 60)

    def test_what_stays(self):
        """Nesting, requests, rings, BARE places and open places; also for the faults of all short weavings."""
        checked = [0, 0, 0]
        for house in houses_with_names(50):
            try:
                early = early_house(house)
                places = (open_places(house), bare_places(house))
                after = (open_places(early), bare_places(early))
            except TooLarge:
                continue
            if early == house:
                continue
            rows = counted_as(house, early)
            moved = tuple(tuple((name, rows[name][row], index) for name, row, index in one) for one in places)
            self.assertEqual(moved, after)
            self.assertEqual(house_nests(house), house_nests(early))
            self.assertEqual(list(requests_of(house)), list(requests_of(early)))
            self.assertEqual(least_ring(requests_of(house)) == (), least_ring(requests_of(early)) == ())
            self.assertEqual(is_settled(house), is_settled(early))
            for one, opened in ((house, places[0]), (early, after[0])):
                for name, point in Woven(one, 2, 4, most_states=1500).opened:
                    told = Spread(one, name).points[point]
                    self.assertIn((name, told.row, told.deed), opened)
                    checked[0] += 1
            checked[1] += 1
            checked[2] += after[0] != ()
        self.assertGreater(min(checked), 30, checked)

    def test_weavings_are_carried_with_the_same_faults(self):
        rng, checked = random.Random(85), [0, 0, 0]
        for house in houses_with_names(60) + [careless_house(seed) for seed in range(60)]:
            for routine in house.routines:
                for guard in [guard for row in routine.rows for guard in row.guards][:2]:
                    try:
                        free = free_rows(house, routine.name, guard)
                    except TooLarge:
                        continue
                    for row in free[:1] + free[-1:]:
                        if error_of(ending, house, routine.name, row, guard) is None:
                            hits = self.carry(rng, house, routine.name, row, guard)
                            checked = [one + more for one, more in zip(checked, hits)]
        self.assertGreater(min(checked), 20, checked)

    def carry(self, rng, house, name, row, guard):
        other, firsts = ending(house, name, row, guard), random_firsts(rng, house)
        second = Second(house, other, firsts, lambda *told: False,
                        lambda told, point: told == name and point.row == row and point.step == ("drop", guard))
        weaving = random_weaving(rng, house, firsts, second, 40)
        found = carried_early(house, name, row, guard, firsts, weaving)
        self.check(second, weaving, found, False)
        self.assertEqual(replay(other, firsts, found).turns_made, found)
        words = [fault[0] for fault in second.floor.faults]
        return found != weaving, "bare" in words, "stale" in words


if __name__ == "__main__":
    unittest.main()
