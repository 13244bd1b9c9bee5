"""[67], [68]: stands woven together, against all ways to make their moves in turns."""

import random
import unittest

from helpers import error_of
from random_houses import lock_house, nested_house, random_house
from test_stands import locks_after, random_stands
from handsroom.cycles import least_cycle
from handsroom.errors import Clash, Unnested
from handsroom.holds import taken_since
from handsroom.houses import House
from handsroom.interleaving import clash_of, comes_before, weave
from handsroom.lonetable import LoneTable
from handsroom.needs import requests_of
from handsroom.nesting import first_breach, house_nests
from handsroom.replay import replay
from handsroom.spreading import Spread
from handsroom.stands import Stand
from handsroom.standard import standard_firsts

HEAD = "lock a\nlock b\nlock c\nkind k - n\n"
THREE = House.read(HEAD + "\n".join([
    "routine r", "with take a", "do take b", "do take c as g", "close", "done",
    "routine s", "with take b", "with take c", "do take a", "close", "close", "done",
    "routine t", "with take c", "do take a", "do take b as g", "close", "done"]))
CROSSED = House.read(HEAD + "routine r\nwith take a\ndo take b\ndo take c\nclose\ndone\n"
                     "routine s\nwith take b\ndo take a\ndo take c\nclose\ndone")
UNNESTED = House.read(HEAD + "routine r\ndone\nroutine s\ndo take a as g\ndo take b as h\ndrop g\ndone\n"
                      "routine t\ndo take b as g\ndo take a as h\ndrop g\ndone")


def stand_at(house, name, row, deed=None):
    """A stand at the first point of a row, or at a deed of it, by a shortest path."""
    spread = Spread(house, name)
    point = spread.first_point(row) if deed is None else spread.points_of(row)[deed]
    table = LoneTable(spread)
    return Stand(house, name, table.path_to(table.nodes_at(point)[0]))


def can_be_woven(stands):
    """True if the moves of the stands can be made in turns in some way, by trying all of them."""
    held = [[()] + locks_after(stand)[0] for stand in stands]
    first, last = tuple(0 for _ in stands), tuple(len(stand.moves) for stand in stands)
    seen, pending = {first}, [first]
    while pending:
        at = pending.pop()
        if at == last:
            return True
        for hand in range(len(stands)):
            if at[hand] < last[hand]:
                taken = set(held[hand][at[hand] + 1]) - set(held[hand][at[hand]])
                others = {lock for one in range(len(stands)) if one != hand for lock in held[one][at[one]]}
                after = at[:hand] + (at[hand] + 1,) + at[hand + 1:]
                if not taken & others and after not in seen:
                    seen.add(after)
                    pending.append(after)
    return not stands


class WeaveCheck:
    def check_weaving(self, house, stands, turns):
        self.assertIsInstance(turns, tuple)
        machine = replay(house, standard_firsts(house), turns)
        self.assertEqual(machine.turns_made, turns)
        self.assertEqual(len(machine), len(stands))
        for hand, stand in enumerate(stands):
            self.assertEqual(tuple(move for one, move in turns if one == hand), stand.moves)
            state = machine.hand_at(hand)
            self.assertEqual((state.held, machine.wants(hand)), (stand.lock_stack, stand.wanted))
            self.assertEqual(((state.point, state.guards), state.stack), (stand.nodes[-1], stand.stack))
        return machine


class PairsTest(unittest.TestCase):
    def test_comes_before(self):
        stands = [stand_at(THREE, "r", 2), stand_at(THREE, "s", 2)]
        # r holds a and took b since; s holds b and c, and wants a.
        self.assertEqual([stand.lock_stack for stand in stands], [("a",), ("b", "c")])
        self.assertEqual(sorted(comes_before(stands)), [("a", "b"), ("b", "c")])
        self.assertEqual(comes_before([]), ())
        # A lock that is in no lock stack comes neither before nor behind.
        self.assertEqual(comes_before(stands[:1]), ())

    def test_each_pair_once(self):
        stands = [stand_at(THREE, "r", 2), stand_at(THREE, "r", 2), stand_at(THREE, "s", 1)]
        self.assertEqual(sorted(comes_before(stands)), [("a", "b")])
        for wrap in (list, tuple):
            self.assertEqual(sorted(comes_before(wrap(stands))), [("a", "b")])

    def test_the_clash(self):
        first, second = stand_at(THREE, "r", 2), stand_at(THREE, "s", 2)
        self.assertEqual(clash_of(THREE, [first, second]), ())
        self.assertEqual(clash_of(THREE, []), ())
        self.assertEqual(clash_of(THREE, [second, first, second]), ("b",))
        self.assertEqual(clash_of(THREE, (first, first)), ("a",))

    def test_a_lock_cycle(self):
        house = CROSSED
        stands = [stand_at(house, "s", 2), stand_at(house, "r", 2)]
        self.assertEqual(clash_of(house, stands), ("a", "b"))
        self.assertEqual(error_of(weave, house, stands), ("Clash", ("a", "b")))
        self.assertFalse(can_be_woven(stands))
        # A lock in two lock stacks comes ahead of it.
        self.assertEqual(clash_of(house, stands + stands[:1]), ("b",))
        self.assertEqual(clash_of(house, stands + stands), ("a",))

    def test_pairs_against_their_definition(self):
        rng = random.Random(68)
        for seed in range(60):
            house = nested_house(seed)
            stands = random_stands(house, rng, 3)
            want = {(y, x) for stand in stands for y, later in taken_since(stand) for x in later
                    if any(x in other.lock_stack for other in stands)}
            found = comes_before(stands)
            self.assertEqual((set(found), len(found)), (want, len(want)))


class WeaveTest(WeaveCheck, unittest.TestCase):
    def test_a_house_that_does_not_nest(self):
        table = LoneTable(Spread(UNNESTED, "s"))
        want = ("Unnested", "s", table.path_to(first_breach(table)))
        doubled = [stand_at(UNNESTED, "t", 1)] * 2
        for stands in ([], (), [stand_at(UNNESTED, "r", 0)], doubled):
            self.assertEqual(error_of(weave, UNNESTED, stands), want)
        self.assertEqual(clash_of(UNNESTED, doubled), ("b",))
        with self.assertRaises(Unnested):
            weave(UNNESTED, [])

    def test_without_stands(self):
        self.assertEqual(weave(THREE, []), ())
        self.assertEqual(weave(THREE, ()), ())

    def test_one_lock_in_two_lock_stacks(self):
        stand = stand_at(THREE, "r", 1)
        self.assertEqual(error_of(weave, THREE, [stand, stand]), ("Clash", ("a",)))
        with self.assertRaises(Clash):
            weave(THREE, (stand, stand))
        empty = stand_at(THREE, "r", 0)
        self.check_weaving(THREE, [empty] * 9, weave(THREE, [empty] * 9))

    def test_an_order_that_is_needed(self):
        """The hand that takes b and c for a while makes that ahead of the others that keep them."""
        stands = [stand_at(THREE, "t", 3), stand_at(THREE, "s", 1)]
        self.assertEqual(clash_of(THREE, stands), ("b",))
        stands = [stand_at(THREE, "s", 1), stand_at(THREE, "r", 2)]
        turns = weave(THREE, stands)
        self.check_weaving(THREE, stands, turns)
        # r takes b for a while, ahead of s.
        self.assertEqual([hand for hand, move in turns], [0, 1, 1, 1, 1, 0])

    def test_parts_of_one_hand_with_another_one_between(self):
        """r takes b for a while once it holds a, and s takes c for a while once it holds b: a, b, c in this order."""
        house = House.read(HEAD + "routine r\nwith take a\ndo take b\nwith take c\ndo skip\nclose\nclose\ndone\n"
                           "routine s\nwith take b\ndo take c\ndo skip\nclose\ndone")
        stands = [stand_at(house, "r", 3), stand_at(house, "s", 2)]
        self.assertEqual([stand.lock_stack for stand in stands], [("a", "c"), ("b",)])
        for told in (stands, stands[::-1]):
            turns = weave(house, told)
            self.check_weaving(house, told, turns)
            holders = [hand for hand, move in turns if move[0] == "go"]
            self.assertEqual(holders[0], holders[-1])

    def test_against_all_ways_to_take_turns(self):
        rng, counts = random.Random(67), {}
        houses = [lock_house(seed, rows=3) for seed in range(60)] + [nested_house(seed, locks=4) for seed in range(160)]
        houses += [THREE] * 60 + [CROSSED] * 60 + [random_house(seed, rows=5, routines=2) for seed in range(20)]
        for house in houses:
            if not house_nests(house):
                continue
            for many in (1, 2, 2, 3):
                stands = random_stands(house, rng, many, longest=8)
                cycle = clash_of(house, stands)
                self.assertEqual(cycle == (), can_be_woven(stands))
                counts[(many, len(cycle))] = counts.get((many, len(cycle)), 0) + 1
                if cycle == ():
                    self.check_weaving(house, stands, weave(house, stands))
                else:
                    self.assertEqual(error_of(weave, house, stands), ("Clash", cycle))
        self.assertGreater(min(counts[(2, 0)], counts[(3, 0)]), 50)
        self.assertGreater(min(counts[(2, 1)], counts[(3, 1)]), 50)
        self.assertGreater(counts[(2, 2)] + counts.get((3, 2), 0), 10)

    def test_a_house_without_a_request_cycle(self):
        rng, checked = random.Random(69), 0
        for seed in range(400):
            house = nested_house(seed, locks=4)
            if not house_nests(house) or least_cycle(requests_of(house)) != ():
                continue
            stands = random_stands(house, rng, 3)
            held = [lock for stand in stands for lock in stand.lock_stack]
            self.assertEqual(len(set(held)) == len(held), clash_of(house, stands) == ())
            checked += len(set(held)) == len(held) > 1
        self.assertGreater(checked, 20)


if __name__ == "__main__":
    unittest.main()
