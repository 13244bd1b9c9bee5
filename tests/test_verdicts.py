"""[91] to [94], [100]: verdicts and their faults, against machines and against all short weavings."""

import unittest

from helpers import LARGE_HOUSE, TEXTS, error_of
from lock_oracle import Locks
from lone_oracle import Wanderer
from random_houses import BUSY_WORDS, GUARD_WORDS, busy_house, careless_house, lock_house, nested_house, random_house
from test_nesting import crossed_at
from test_products import OVER_BOUND, large_house
from woven_oracle import Woven
from handsroom.bareness import touch_statuses
from handsroom.certificates import ring_gaps, ring_table
from handsroom.errors import TooLarge
from handsroom.houses import House
from handsroom.judging import HeldTable
from handsroom.lonetable import LoneTable, is_closed
from handsroom.machine import Machine
from handsroom.needs import requests_of
from handsroom.nesting import first_breach, house_nests
from handsroom.products import Product
from handsroom.replay import length_of, replay
from handsroom.rings import least_ring
from handsroom.rows import Row
from handsroom.spreading import Spread
from handsroom.standard import standard_firsts
from handsroom.tables import RoomTable
from handsroom.twohands import open_places
from handsroom.verdicts import Bare, Fault, Ring, Stale, Verdict, bare_places, judged_right, stale_places

HEAD = "lock a\nlock b\nlock c\nkind box a f\nkind bag - n\nbody hit box : box.f\nbody both : +a +b a>b\n"


def house_of(*routines):
    return House.read(HEAD + "\n".join(f"routine {name}\n{rows}\ndone" for name, rows in routines))


CLEAN = house_of(("r x:box", "with take a\ndo read x f, keep x f\nclose"))
RINGS = house_of(("r", "with take a\ndo take b\nclose"), ("s", "do skip\nwith take b, take c\ndo take a\nclose"))
UNNESTED = house_of(("q", "do skip"), ("r x:box", "do take a as g\ndo take b as h\ndrop g\ndo read x f"))


def bare_lengths(house):
    """For each bare place the least length ahead of a touch there, from all lone runs; None if they are too many."""
    found = {}
    for routine in house.routines:
        world = Wanderer(Spread(house, routine.name), 3000)
        if not world.is_whole:
            return None
        seen, border, length = set(), [world.settled((0, ()), leads, ()) for leads in world.starts()], 0
        while border:
            later = []
            for state in border:
                if state in seen:
                    continue
                seen.add(state)
                step, point = world.step(state), world.spread.points[state[0][0]]
                names = [step[1]] if step[0] in ("read", "write") else []
                if step[0] == "call":
                    kinds = [mark[1] for mark in house.signature_of(step[1]).marks if mark[0] == "writes"]
                    names = [name for name in step[2] if world.kinds[name] in kinds]
                for name in names:
                    lock = house.guard_of(world.kinds[name])
                    if lock is not None and lock not in world.held(state) and not world.is_own(state, name):
                        found.setdefault((routine.name, point.row, point.deed), length)
                later += world.behind(state)
            border, length = later, length + 1
    return found


def reading_first(house):
    """The house whose routines read all numbers of their names first, so that keeps are seldom open to one hand."""
    for routine in house.routines:
        reads = [("read", name, field) for name, kind in routine.names for field in house.fields_of(kind)]
        house = house.with_rows(routine.name, (Row("do", *reads),) + routine.rows if reads else routine.rows)
    return house


class FaultCheck:
    def check_fault(self, house, fault, kind, word):
        self.assertIs(type(fault), kind)
        self.assertIsInstance(fault, Fault)
        self.assertEqual((fault.word, type(fault.firsts), type(fault.turns)), (word, tuple, tuple))
        machine = replay(house, fault.firsts, fault.turns)
        self.assertEqual(machine.turns_made, fault.turns)
        self.assertEqual(len(machine), fault.hands)
        self.assertTrue(all(type(one) is tuple and type(one[1]) is tuple for one in fault.firsts))
        return machine

    def check_point(self, house, fault, kind, word):
        """A Bare or a Stale."""
        machine = self.check_fault(house, fault, kind, word)
        made = [one for one in machine.faults_made if one[0] == word]
        hand = fault.turns[-1][0]
        self.assertEqual(made, [(word, len(fault.turns) - 1, hand, fault.point)])
        self.assertEqual(machine.hand_at(hand).routine, fault.routine)
        self.assertEqual(length_of(fault.turns[:-1]), fault.length)
        line = f"{word}: hands {fault.hands}, length {fault.length}, routine {fault.routine}, point {fault.point}"
        self.assertEqual(fault.lines(), (line,))

    def check_ring(self, house, fault):
        machine = self.check_fault(house, fault, Ring, "ring")
        self.assertEqual(sorted(machine.ring()), list(range(fault.hands)))
        self.assertEqual((length_of(fault.turns), fault.firsts), (fault.length, standard_firsts(house)))
        before = Machine(house, fault.firsts)
        for hand, move in fault.turns:
            self.assertEqual(before.ring(), ())
            before.turn(hand, move)
        self.assertEqual(fault.requests, least_ring(requests_of(house)))
        self.assertEqual(len(fault.requests), fault.hands)
        self.assertEqual(fault.lines()[0], f"ring: hands {fault.hands}, length {fault.length}")
        self.assertEqual(fault.lines()[1:], tuple(
            "  holds " + "+".join(held) + ", wants " + wanted for held, wanted in fault.requests))

    def check_verdict(self, house):
        found = Verdict(house)
        self.assertIs(found.house, house)
        if found.breach is not None:
            name, path = found.breach
            table = LoneTable(Spread(house, name))
            self.assertEqual(path, table.path_to(first_breach(table)))
            names = [routine.name for routine in house.routines]
            for earlier in names[:names.index(name)]:
                self.assertIsNone(first_breach(LoneTable(Spread(house, earlier))))
            self.assertIsNone(found.ring)
        self.assertEqual(found.breach is None, house_nests(house))
        if found.bare is not None:
            self.check_point(house, found.bare, Bare, "bare")
            self.assertEqual(found.bare.hands, 1)
        if found.stale is not None:
            self.check_point(house, found.stale, Stale, "stale")
        if found.ring is not None:
            self.check_ring(house, found.ring)
        right = (found.breach, found.bare, found.stale, found.ring) == (None,) * 4
        self.assertIs(found.is_right, right)
        self.assertIs(judged_right(house), right)
        return found


class VerdictTest(FaultCheck, unittest.TestCase):
    def lines(self, house):
        found = self.check_verdict(house)
        self.assertIsInstance(found.lines(), tuple)
        return list(found.lines())

    def test_a_house_that_is_right(self):
        self.assertEqual(self.lines(CLEAN), ["nests: yes", "bare: no", "stale: no", "ring: no", "right: yes"])
        found = Verdict(CLEAN)
        self.assertEqual((found.breach, found.bare, found.stale, found.ring, found.is_right), (None, None, None, None, True))
        self.assertIs(Verdict(House.read("kind k - n\nroutine r\ndone")).is_right, True)

    def test_a_house_that_does_not_nest(self):
        self.assertEqual(self.lines(UNNESTED), [
            "nests: no, routine r, length 2", "bare: hands 1, length 3, routine r, point 3", "stale: no", "ring: not decided",
            "right: no"])
        name, path = Verdict(UNNESTED).breach
        self.assertEqual((name, path[-1]), ("r", (2, (("g", "a"), ("h", "b")))))
        # Rings are not decided then, also where there is one.
        house = house_of(("r", "do take a as g\ndo take b as h\ndrop g"), ("s", "with take a\ndo take a\nclose"))
        self.assertEqual(self.lines(house)[3], "ring: not decided")
        self.assertIsNone(Verdict(house).ring)

    def test_bare(self):
        for rows, point, last in (("do skip, read x f", 1, ("go", None, 2)), ("do skip, write x f", 1, ("go", 0, 2)),
                                  ("do skip, call hit x", 1, ("enter",))):
            house = house_of(("q", "do skip"), ("r x:box", rows))
            self.assertEqual(self.lines(house)[1], f"bare: hands 1, length 1, routine r, point {point}")
            hand, move = Verdict(house).bare.turns[-1]
            self.assertEqual((hand, move[0], move[-1]), (0, last[0], last[-1]))
            self.assertEqual(bare_places(house), (("r", 0, 1),))

    def test_the_least_bare(self):
        house = house_of(("r x:box", "do skip, skip, read x f"), ("s x:box", "do skip, read x f"), ("t x:box", "do skip, read x f"))
        found = Verdict(house).bare
        self.assertEqual((found.routine, found.length), ("s", 1))

    def test_stale_of_one_hand(self):
        house = house_of(("r u:bag v:bag", "do read u n, write v n\ndo keep u n"))
        self.assertEqual(self.lines(house)[2], "stale: hands 1, length 2, routine r, point 2")
        house = house_of(("r u:bag", "do skip, keep u n"))
        self.assertEqual(self.lines(house)[2], "stale: hands 1, length 1, routine r, point 1")

    def test_stale_of_two_hands(self):
        house = house_of(("r u:bag", "do read u n\ndo keep u n"), ("w u:bag", "do write u n"))
        self.assertEqual(self.lines(house)[2], "stale: hands 2, length 2, routine r, point 1")
        # The hand before the last turn can be the second one that started.
        house = house_of(("r u:bag", "do read u n\ndo keep u n"), ("w u:bag", "do make u, put u, write u n"))
        found = Verdict(house).stale
        self.check_point(house, found, Stale, "stale")
        self.assertEqual((found.hands, found.turns[-1][0], found.routine), (2, 1, "r"))

    def test_fewest_hands_come_ahead_of_the_length(self):
        house = house_of(("r u:bag", "do read u n\ndo keep u n"), ("w u:bag", "do write u n"),
                         ("s u:bag v:bag", "do read u n, skip, skip, skip, skip, write v n\ndo keep u n"))
        self.assertEqual(self.lines(house)[2], "stale: hands 1, length 6, routine s, point 6")

    def test_ring(self):
        self.assertEqual(self.lines(RINGS)[3:], [
            "ring: hands 2, length 4", "  holds a, wants b", "  holds b+c, wants a", "right: no"])
        house = house_of(("r", "do skip\nwith take b\ndo call both\nclose"))
        self.assertEqual(self.lines(house)[3:], ["ring: hands 1, length 2", "  holds a+b, wants b", "right: no"])

    def test_all_faults_at_once(self):
        house = house_of(("r x:box u:bag", "do read x f, keep u n\nwith take a\ndo take a\nclose"))
        self.assertEqual(self.lines(house), [
            "nests: yes", "bare: hands 1, length 0, routine r, point 0", "stale: hands 1, length 1, routine r, point 1",
            "ring: hands 1, length 3", "  holds a, wants a", "right: no"])

    def test_fields_of_a_fault(self):
        found = Verdict(RINGS).ring
        self.assertEqual((found.word, found.hands, found.length), ("ring", 2, 4))
        self.assertFalse(hasattr(found, "point"))
        base = Fault("bare", (), (), 3, 1)
        self.assertEqual(base.lines(), ("bare: hands 1, length 3",))

    def test_tables_that_are_too_large(self):
        self.assertEqual(error_of(Verdict, House.read(LARGE_HOUSE)), ("TooLarge", "spots"))
        for ask in (bare_places, stale_places):
            self.assertEqual(error_of(ask, House.read(LARGE_HOUSE)), ("TooLarge", "spots"))
        house = House.read(large_house(*OVER_BOUND).text().replace("do make x", "do read x n, keep x n", 1))
        self.assertEqual(error_of(Verdict, house), ("TooLarge", "states"))
        with self.assertRaises(TooLarge):
            Verdict(house)


class PlacesTest(unittest.TestCase):
    def test_bare_places(self):
        house = house_of(("z x:box", "do read x f, keep x f\ndo write x f, call hit x\ndo take a, read x f"),
                         ("y x:box", "do make x, read x f, put x, write x f"), ("d x:box", "either\ndo make x\nclose\ndo read x f"))
        self.assertEqual(bare_places(house), (("z", 0, 0), ("z", 1, 0), ("z", 1, 1), ("y", 0, 3), ("d", 3, 0)))
        self.assertEqual(bare_places(CLEAN), ())

    def test_stale_places(self):
        house = house_of(("z u:bag", "do keep u n, read u n, keep u n"), ("y u:bag", "do make u, keep u n\ndo keep u n, put u, keep u n"),
                         ("w u:bag", "do write u n"))
        self.assertEqual(stale_places(house), (("z", 0, 0), ("z", 0, 2), ("y", 1, 2)))
        self.assertEqual(stale_places(CLEAN), ())

    def test_against_all_lone_runs_and_short_weavings(self):
        counts = [0, 0]
        for seed in range(120):
            house = busy_house(seed) if seed % 2 else careless_house(seed)
            want = bare_lengths(house)
            if want is not None:
                self.assertEqual(set(bare_places(house)), set(want))
                counts[0] += len(want)
            stale = stale_places(house)
            for name, at in Woven(house, 3 if seed % 5 == 0 else 2, 5, most_states=2500).opened:
                point = Spread(house, name).points[at]
                if point.step[0] == "keep":
                    self.assertIn((name, point.row, point.deed), stale)
                    counts[1] += 1
            self.assertEqual(stale, tuple(place for place in open_places(house)
                                          if house.routine_of(place[0]).rows[place[1]].deeds[place[2]][0] == "keep"))
        self.assertGreater(min(counts), 40)

    def test_in_order(self):
        for seed in range(60):
            house = random_house(seed, rows=7, routines=2)
            names = [routine.name for routine in house.routines]
            try:
                for found in (bare_places(house), stale_places(house)):
                    self.assertEqual(list(found), sorted(found, key=lambda place: (names.index(place[0]),) + place[1:]))
            except TooLarge:
                continue


def shown_right(house):
    """True if the finite tables of [95] show that a house is right; nothing is searched but their own rows."""
    stations, chains = ring_table(house)
    if list(ring_gaps(house, stations, chains)):
        return False
    spreads = [Spread(house, routine.name) for routine in house.routines]
    for spread in spreads:
        table = LoneTable(spread)
        if not is_closed(spread, table.nodes) or any(crossed_at(spread, node) for node in table.nodes):
            return False
        if any(status in ("bare", "mixed") for status in touch_statuses(RoomTable(spread))):
            return False
        held = HeldTable(spread)
        if any(spread.points[spot.node[0]].step[0] == "keep" and not held.is_known(spot) for spot in held):
            return False
    for spread in spreads:
        for kind, field in house.sorts:
            for other in spreads:
                product = Product(house, spread.name, other.name, kind, field)
                if not all(state in product for one in product for _, _, state in product.steps_at(one)):
                    return False
                if any(spread.points[state[0][0][0]].step[0] == "keep" for state in product.open_states()):
                    return False
    return True


class TablesTest(unittest.TestCase):
    def test_what_shows_that_a_house_is_right(self):
        counts = {True: 0, False: 0}
        houses = [CLEAN, RINGS, UNNESTED] + [careless_house(seed) for seed in range(120)]
        houses += [nested_house(seed) for seed in range(40)] + [busy_house(seed) for seed in range(80)]
        houses += [reading_first(careless_house(seed)) for seed in range(60)]
        for house in houses:
            self.assertIs(shown_right(house), Verdict(house).is_right)
            counts[shown_right(house)] += 1
        self.assertGreater(min(counts.values()), 40)


class OracleTest(FaultCheck, unittest.TestCase):
    def test_the_faults_of_random_houses(self):
        counts = {}
        houses = [House.read(text) for text in TEXTS] + [random_house(seed, rows=6, routines=2) for seed in range(80)]
        houses += [busy_house(seed, rows=6, words=BUSY_WORDS + ("take",) * 4) for seed in range(100)]
        houses += [lock_house(seed, rows=3) for seed in range(60)] + [nested_house(seed, locks=4) for seed in range(60)]
        houses += [careless_house(seed) for seed in range(100)]
        houses += [random_house(seed, rows=8, routines=2, words=GUARD_WORDS) for seed in range(80)]
        for house in houses:
            try:
                found = self.check_verdict(house)
            except TooLarge:
                continue
            for name in ("breach", "bare", "stale", "ring"):
                counts[name] = counts.get(name, 0) + (getattr(found, name) is not None)
            counts["right"] = counts.get("right", 0) + found.is_right
        self.assertGreater(counts.pop("breach"), 5)
        self.assertGreater(min(counts.values()), 20, counts)

    def test_least_bare(self):
        hits = [0, 0]
        for seed in range(160):
            house = busy_house(seed) if seed % 2 else careless_house(seed)
            lengths = bare_lengths(house)
            if lengths is not None:
                bare = Verdict(house).bare
                self.assertEqual(bare and bare.length, min(lengths.values()) if lengths else None)
                hits[bare is None] += 1
        self.assertGreater(min(hits), 30)

    def test_least_stale(self):
        hits = {}
        for seed in range(140):
            house = busy_house(seed, rows=4, routines=1 + seed % 2) if seed % 3 else careless_house(seed)
            house = reading_first(house) if seed % 4 else house
            stale = Verdict(house).stale
            keeps = {(routine.name, at) for routine in house.routines
                     for at, point in enumerate(Spread(house, routine.name).points) if point.step[0] == "keep"}
            for hands in (1, 2, 3):
                woven = Woven(house, hands, 6, most_states=4000)
                lengths = [length for told, length in woven.opened.items() if told in keeps]
                if lengths:
                    # A weaving of fewer hands may be longer than those that were tried.
                    self.assertIsNotNone(stale)
                    self.assertLessEqual((stale.hands, stale.length), (hands, min(lengths)))
                    if stale.hands == hands:
                        self.assertEqual(stale.length, min(lengths))
                    hits[stale.hands] = hits.get(stale.hands, 0) + 1
                    break
                if woven.is_whole and stale is not None:
                    self.assertTrue(stale.hands > hands or stale.length > 6)
            if not lengths and stale is None:
                hits[0] = hits.get(0, 0) + 1
        self.assertGreater(min(hits[0], hits[1], hits[2]), 8, hits)

    def test_least_ring(self):
        hits = {}
        for seed in range(90):
            house = nested_house(seed + 300) if seed % 2 else lock_house(seed, rows=2)
            if not house_nests(house):
                continue
            ring, world, want = Verdict(house).ring, Locks(house), None
            for hands in range(1, len(house.locks) + 1):
                length = world.least_ring(hands, most=6000)
                if length is not None:
                    want = (hands, length)
                    break
            if want is None or want[1] != -1:
                self.assertEqual(ring and (ring.hands, ring.length), want)
                hits[want and want[0]] = hits.get(want and want[0], 0) + 1
        self.assertGreater(min(hits[None], hits[1], hits[2]), 8, hits)


if __name__ == "__main__":
    unittest.main()
