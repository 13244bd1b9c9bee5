"""[69], [70]: rings, against all weavings of up to three hands, and the tables which show that there is none."""

import random
import unittest

from floor_oracle import Floor, Mover
from helpers import TEXTS, error_of
from lock_oracle import Locks
from random_houses import GUARD_WORDS, lock_house, nested_house, random_house
from request_oracle import random_table
from run_oracle import levels, successors
from handsroom.certificates import ring_gaps, ring_table
from handsroom.chains import chains_of
from handsroom.cycles import least_cycle, total_length
from handsroom.errors import Unfinished
from handsroom.houses import House
from handsroom.lonetable import LoneTable
from handsroom.machine import Machine
from handsroom.needs import requests_of
from handsroom.nesting import first_breach, house_nests
from handsroom.orders import lock_order
from handsroom.replay import finish, length_of, replay
from handsroom.requests import Requests, self_requests
from handsroom.rings import RingFinding, find_ring, least_ring
from handsroom.spreading import Spread
from handsroom.standard import standard_firsts

HEAD = "lock a\nlock b\nlock c\nkind k - n\nbody own : +a\nbody both : +a +b a>b\n"


def house_of(*routines):
    return House.read(HEAD + "\n".join(f"routine {name}\n{rows}\ndone" for name, rows in routines))


TWO = house_of(("r", "do skip\nwith take a\ndo take b\nclose"), ("s", "with take b\ndo take a\nclose"))


class LeastRingTest(unittest.TestCase):
    def test_a_self_request_comes_ahead_of_a_cycle(self):
        rows = [(("a",), "b", 0), (("b",), "a", 0), (("a", "c"), "c", 9), (("b",), "b", 9)]
        table = Requests(("a", "b", "c"), rows)
        self.assertEqual(least_ring(table), ((("a", "c"), "c"),))
        self.assertEqual(least_ring(Requests(("b", "a", "c"), rows)), ((("b",), "b"),))
        self.assertEqual(least_ring(Requests(("a", "b", "c"), rows + [(("b",), "b", 8)])), ((("b",), "b"),))
        self.assertEqual(least_ring(Requests(("a", "b", "c"), rows[:2])), ((("a",), "b"), (("b",), "a")))
        self.assertEqual(least_ring(Requests(("a", "b", "c"), rows[:1])), ())
        self.assertEqual(least_ring(Requests((), ())), ())

    def test_against_the_definition(self):
        rng = random.Random(70)
        for _ in range(200):
            table = Requests(*random_table(rng))
            alone = self_requests(table)
            want = least_cycle(table)
            if alone:
                least = min(table[one] for one in alone)
                want = ([one for one in alone if table[one] == least][0],)
            self.assertEqual(least_ring(table), want)


class FindRingTest(unittest.TestCase):
    def check_ring(self, house, found):
        self.assertIs(type(found), RingFinding)
        table = requests_of(house)
        self.assertEqual((found.requests, found.total), (least_ring(table), total_length(table, found.requests)))
        self.assertEqual(length_of(found.turns), found.total)
        machine = Machine(house, standard_firsts(house))
        for number, (hand, move) in enumerate(found.turns):
            self.assertEqual(machine.ring(), (), number)
            machine.turn(hand, move)
        many = len(found.requests)
        self.assertEqual((len(machine), machine.ring()), (many, tuple(range(many))))
        for hand, (held, wanted) in enumerate(found.requests):
            self.assertEqual((set(machine.hand_at(hand).held), machine.wants(hand)), (set(held), wanted))
        self.assertEqual(machine.turns_made, found.turns)
        self.assertEqual(error_of(finish, machine), ("Unfinished", tuple(range(many)), ()))

    def test_two_hands(self):
        found = find_ring(TWO)
        self.check_ring(TWO, found)
        self.assertEqual((found.requests, found.total), (((("a",), "b"), (("b",), "a")), 3))

    def test_one_hand(self):
        for rows in ("do take a\nwith take a\ndo take a\nclose", "with take a\ndo call own\nclose"):
            house = house_of(("r", rows))
            found = find_ring(house)
            self.check_ring(house, found)
            self.assertEqual(found.requests, ((("a",), "a"),))
        found = find_ring(house_of(("r", "with take b\ndo call both\nclose")))
        self.assertEqual((found.requests, found.total), (((("a", "b"), "b"),), 1))

    def test_three_hands(self):
        house = house_of(("r", "with take a\ndo take b\nclose"), ("s", "with take b\ndo take c\nclose"),
                         ("t", "with take c\ndo take a\nclose"))
        found = find_ring(house)
        self.check_ring(house, found)
        self.assertEqual((len(found.requests), found.total), (3, 3))

    def test_no_ring(self):
        self.assertIsNone(find_ring(house_of(("r", "with take a\ndo take b, take c\nclose"), ("s", "do call both"))))
        self.assertIsNone(find_ring(House.read("kind k - n\nroutine r\ndone")))

    def test_one_lock_that_keeps_them_apart(self):
        """Both orders of a and b are taken, but only under c: there is no request cycle."""
        house = house_of(("r", "with take c\nwith take a\ndo take b\nclose\nclose"),
                         ("s", "with take c\nwith take b\ndo take a\nclose\nclose"))
        self.assertIsNone(find_ring(house))
        self.assertEqual(error_of(lock_order, requests_of(house)), ("NoLockOrder", ("a", "b")))

    def test_a_house_that_does_not_nest(self):
        crossing = "do take a as g\ndo take b as h\ndrop g"
        for routines in ([("r", "do skip"), ("s", crossing)], [("q", "do take a\nwith take a\ndo take a\nclose"), ("s", crossing)]):
            house = house_of(*routines)
            table = LoneTable(Spread(house, "s"))
            self.assertEqual(error_of(find_ring, house), ("Unnested", "s", table.path_to(first_breach(table))))

    def test_against_all_weavings(self):
        sizes = {}
        houses = [nested_house(seed) for seed in range(150)] + [lock_house(seed, rows=2) for seed in range(60)]
        for house in houses:
            if not house_nests(house):
                continue
            found = find_ring(house)
            world, want = Locks(house), None
            for hands in range(1, len(house.locks) + 1):
                length = world.least_ring(hands, most=8000)
                if length is not None:
                    want = (hands, length)
                    break
            if want is None or want[1] != -1:
                self.assertEqual(want, found and (len(found.requests), found.total))
            if found is not None:
                self.check_ring(house, found)
            sizes[want and want[0]] = sizes.get(want and want[0], 0) + 1
        self.assertGreater(min(sizes[None], sizes[1], sizes[2]), 25)

    def test_random_weavings_are_finished_without_a_ring(self):
        """Machines of houses without a ring can be finished from wherever hands stand."""
        rng, finished = random.Random(57), 0
        for seed in range(80):
            house = nested_house(seed)
            if find_ring(house) is not None:
                continue
            firsts = standard_firsts(house)
            floor = Floor(house, firsts)
            mover = Mover(rng, floor)
            for _ in range(rng.randint(5, 40)):
                hand, move = mover.turn(0)
                if floor.refusal(hand, move) is None:
                    floor.make(hand, move)
            machine = replay(house, firsts, floor.turns)
            self.assertEqual(machine.ring(), ())
            machine.attempt(finish(machine))
            self.assertTrue(all(machine.hand_at(hand).over for hand in range(len(machine))))
            finished += len(machine) > 1
        self.assertGreater(finished, 25)


def gaps_again(house, stations, chains):
    """A second reading of [69]; requests are looked up in a world of locks."""
    world, found = Locks(house), []

    def requests(name, node):
        """The requests of a node in the order of the wishes: own stacks by length, then by their locks."""
        guards = tuple(lock for _, lock in node[1])
        state = (name, node, None, None)
        step = world.step(state)
        if step[0] == "take":
            return [(guards, step[1])]
        rows = []
        if step[0] == "call":
            marks = world.marks[step[1]]
            pending = [()]
            for own in pending:
                for lock in house.locks:
                    if ("takes", lock) in marks and all(("under", one, lock) in marks for one in own):
                        if not set(own) & set(guards):
                            rows.append((guards + own, lock))
                        pending.append(own + (lock,))
        return rows

    def add(*gap):
        if gap not in found:
            found.append(gap)

    def ordered(held):
        return tuple(lock for lock in house.locks if lock in held)
    for routine in house.routines:
        if (routine.name, (0, ())) not in stations:
            add("node", routine.name, (0, ()))
    for name, node in stations:
        for after in successors(world.spreads[name], node):
            if (name, after) not in stations:
                add("node", name, after)
        for held, wanted in requests(name, node):
            if wanted in held:
                add("self", ordered(held), wanted)
            elif held and (ordered(held), wanted) not in chains:
                add("chain", ordered(held), wanted)
    for union, last in chains:
        if last in union:
            add("ring", union, last)
            continue
        for name, node in stations:
            for held, wanted in requests(name, node):
                if held and wanted not in held and last in held and not set(held) & set(union):
                    if (ordered(union + held), wanted) not in chains:
                        add("chain", ordered(union + held), wanted)
    return found


class CertificateTest(unittest.TestCase):
    def houses(self):
        found = [TWO] + [House.read(text) for text in TEXTS[:3]] + [nested_house(seed, locks=4) for seed in range(60)]
        found += [lock_house(seed, rows=3) for seed in range(40)]
        return found + [random_house(seed, rows=6, routines=2, words=GUARD_WORDS) for seed in range(30)]

    def test_the_table(self):
        stations, chains = ring_table(TWO)
        self.assertEqual(stations[:3], (("r", (0, ())), ("r", (1, ())), ("r", (2, (("1.0", "a"),)))))
        self.assertEqual(chains, ((("a",), "b"), (("a", "b"), "a"), (("a", "b"), "b"), (("b",), "a")))
        for house in self.houses():
            stations, chains = ring_table(house)
            want = [(routine.name, node) for routine in house.routines
                    for node in LoneTable(Spread(house, routine.name)).nodes]
            self.assertEqual((stations, chains), (tuple(want), chains_of(requests_of(house))))
            first = house.routines[0].name
            self.assertEqual({node for name, node in stations if name == first}, set(levels(Spread(house, first))))

    def test_gaps_of_nothing(self):
        self.assertEqual(list(ring_gaps(TWO, [], [])), [("node", "r", (0, ())), ("node", "s", (0, ()))])
        self.assertEqual(list(ring_gaps(TWO, (("s", (0, ())),), ())), [
            ("node", "r", (0, ())), ("node", "s", (1, (("0.0", "b"),)))])

    def test_gaps_of_chains(self):
        self.assertEqual(list(ring_gaps(house_of(("r", "do skip")), *[[], [(("a", "b"), "b"), (("a",), "b")]])),
                         [("node", "r", (0, ())), ("ring", ("a", "b"), "b")])
        stations, chains = ring_table(TWO)
        self.assertEqual(list(ring_gaps(TWO, stations, chains)), [("ring", ("a", "b"), "a"), ("ring", ("a", "b"), "b")])
        self.assertEqual(list(ring_gaps(TWO, stations, chains[:1])), [("chain", ("b",), "a"), ("chain", ("a", "b"), "a")])

    def test_no_gaps_without_rings(self):
        """Also in houses that do not nest; with a self request or a request cycle there are gaps."""
        kinds = {True: 0, False: 0}
        for house in self.houses():
            stations, chains = ring_table(house)
            clean = not self_requests(requests_of(house)) and least_cycle(requests_of(house)) == ()
            found = list(ring_gaps(house, stations, chains))
            self.assertEqual(found == [], clean)
            self.assertEqual({gap[0] for gap in found} - {"self", "ring"}, set())
            kinds[clean] += 1
        self.assertGreater(min(kinds.values()), 25)

    def test_against_a_second_reading(self):
        rng, words = random.Random(69), {}
        for house in self.houses():
            stations, chains = ring_table(house)
            locks = house.locks
            unions = [tuple(lock for lock in locks if rng.random() < 0.5) for _ in range(3)]
            extra = [(union, rng.choice(locks)) for union in unions if union] if locks else []
            for _ in range(4):
                some = [one for one in stations if rng.random() < 0.8] + [rng.choice(stations) for _ in range(2)]
                more = [one for one in list(chains) + extra if rng.random() < 0.7]
                rng.shuffle(some)
                rng.shuffle(more)
                wrap = rng.choice((list, tuple))
                found = list(ring_gaps(house, wrap(some), wrap(more)))
                self.assertEqual(found, gaps_again(house, some, more))
                self.assertTrue(all(type(gap) is tuple and len(gap) == 3 for gap in found))
                for gap in found:
                    words[gap[0]] = words.get(gap[0], 0) + 1
        self.assertGreater(min(words[word] for word in ("node", "self", "chain", "ring")), 50)

    def test_lists_that_change_while_gaps_are_yielded(self):
        stations, chains = [list(one) for one in ring_table(TWO)]
        some, more = stations[2:], chains[:1]
        want = list(ring_gaps(TWO, some, more))
        gaps = ring_gaps(TWO, some, more)
        found = [next(gaps)]
        some.clear()
        more.extend(chains)
        self.assertEqual(found + list(gaps), want)
        self.assertGreater(len(want), 2)

    def test_nodes_of_no_lone_path(self):
        gaps = list(ring_gaps(TWO, [("r", (0, ())), ("s", (0, ())), ("s", (1, ()))], []))
        self.assertEqual(gaps, [("node", "r", (1, ())), ("node", "s", (1, (("0.0", "b"),))),
                                ("node", "s", (2, (("1.0", "a"),)))])

    def test_filling_the_gaps_leads_to_the_table(self):
        for house in self.houses()[:40]:
            stations, chains = [], []
            while True:
                gaps = [gap for gap in ring_gaps(house, stations, chains) if gap[0] in ("node", "chain")]
                if not gaps:
                    break
                stations += [(name, node) for word, name, node in gaps if word == "node"]
                chains += [(union, wanted) for word, union, wanted in gaps if word == "chain"]
            want = ring_table(house)
            self.assertEqual((set(stations), set(chains)), (set(want[0]), set(want[1])))

    def test_a_house_with_no_gaps_comes_to_no_ring(self):
        """Also one that does not nest."""
        text = "do take a as g\ndo take b as h\ndrop g\ndrop h"
        unnested = [house_of(("r", text)), house_of(("r", text), ("s", "with take b\ndo take c\nclose"))]
        unnested += [random_house(seed, rows=5, routines=2, names=0, words=GUARD_WORDS) for seed in range(300)]
        checked = 0
        for house in unnested:
            if not house_nests(house) and not list(ring_gaps(house, *ring_table(house))):
                world = Locks(house)
                for hands in (1, 2):
                    self.assertIn(world.least_ring(hands, most=8000), (None, -1))
                checked += 1
        self.assertGreaterEqual(checked, 3)


class UnfinishedTest(unittest.TestCase):
    def test_a_ring_cannot_be_finished(self):
        found = find_ring(TWO)
        machine = replay(TWO, standard_firsts(TWO), found.turns)
        with self.assertRaises(Unfinished) as caught:
            finish(machine)
        self.assertEqual((caught.exception.cycle, caught.exception.short), ((0, 1), ()))


if __name__ == "__main__":
    unittest.main()
