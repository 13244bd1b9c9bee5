"""[17]: fields, objects and guards may have the names of locks, kinds, bodies and routines; nothing changes by that."""

import random
import unittest

from floor_oracle import Floor, Mover, random_firsts
from helpers import error_of
from random_houses import GUARD_WORDS, SHARE_WORDS, busy_house, random_house
from handsroom.changing import naming
from handsroom.deeds import guard_name, named
from handsroom.earning import earned
from handsroom.ends import life
from handsroom.errors import NotFit, TooLarge
from handsroom.guards import makers
from handsroom.houses import House
from handsroom.idle import idle_takes
from handsroom.judging import HeldTable, demand_statuses
from handsroom.kinds import Hall
from handsroom.lonetable import LoneTable
from handsroom.lots import least_lots, unnamed_places
from handsroom.machine import Machine
from handsroom.needs import requests_of
from handsroom.nesting import crossings, house_nests
from handsroom.others import OthersTable
from handsroom.products import Product
from handsroom.rewriting import replaceable, rewritten
from handsroom.rings import find_ring
from handsroom.routines import Routine
from handsroom.rows import Row
from handsroom.signatures import Signature
from handsroom.spreading import Spread
from handsroom.tails import early_house
from handsroom.twohands import find_opening
from handsroom.verdicts import Verdict, bare_places, stale_places
from handsroom.writers import writer_sets

OBJECTS = {"x": "a", "y": "box", "z": "p", "w": "r"}
FIELDS = {"f": "box", "g": "a"}
TAGS = ["b", "bag", "c", "q", "s", "t", "cup", "f", "g", "x", "y", "z"]


def tag_for(guard):
    """The new name of a guard called g1, g2, ..; others keep theirs."""
    return TAGS[int(guard[1:]) - 1] if guard in [f"g{at}" for at in range(1, len(TAGS) + 1)] else guard


def changed_deed(deed):
    if deed[0] in ("take", "call"):
        guard = guard_name(deed)
        plain = deed[:-2] if guard else deed
        if deed[0] == "call":
            plain = plain[:2] + (tuple(OBJECTS[name] for name in plain[2]),)
        return named(plain, tag_for(guard)) if guard else plain
    if deed[0] in ("read", "keep", "write"):
        return (deed[0], OBJECTS[deed[1]], FIELDS[deed[2]])
    return deed[:1] + tuple(OBJECTS[name] for name in deed[1:])


def renamed(house):
    """The same house with other names of objects, fields and guards, which other things have, too."""
    rows = [row[:2] + tuple(FIELDS[field] for field in row[2:]) for row in house.hall.descriptions]
    hall = Hall(house.locks, *rows)
    bodies = []
    for name, signature in house.bodies:
        marks = [mark[:2] + (FIELDS[mark[2]],) if mark[0] == "writes" else mark for mark in signature.marks]
        bodies.append((name, Signature(hall, *signature.places, marks=marks)))
    routines = []
    for routine in house.routines:
        names = [(OBJECTS[name], kind) for name, kind in routine.names]
        told = [Row(row.word, *[changed_deed(deed) for deed in row.deeds], guard=tag_for(row.guard) if row.guard else "")
                for row in routine.rows]
        routines.append(Routine(routine.name, names, told))
    return House(hall, bodies, routines)


def node_for(node):
    return node[0], tuple((tag_for(tag), lock) for tag, lock in node[1])


class RenamedTest(unittest.TestCase):
    def houses(self):
        found = [random_house(seed, rows=8, names=4, routines=2) for seed in range(50)]
        found += [random_house(seed, rows=8, routines=2, words=GUARD_WORDS) for seed in range(40)]
        found += [busy_house(seed, rows=7, names=3) for seed in range(80)]
        found += [busy_house(seed, rows=7, names=3, words=SHARE_WORDS) for seed in range(40)]
        for house in found:
            if max((len(row.guards) for routine in house.routines for row in routine.rows), default=0) < len(TAGS):
                yield house, renamed(house)

    def test_tables(self):
        for house, other in self.houses():
            for routine in house.routines:
                one, two = LoneTable(Spread(house, routine.name)), LoneTable(Spread(other, routine.name))
                self.assertEqual(tuple(node_for(node) for node in one.nodes), two.nodes)
                self.assertEqual(tuple(tuple(tag_for(tag) for tag in pair) for pair in crossings(one)), crossings(two))
                for maker in makers(house, routine.name):
                    self.assertEqual(life(one, maker.tag), life(two, tag_for(maker.tag)))
                try:
                    held = HeldTable(one.spread)
                except TooLarge:
                    continue
                twin = HeldTable(two.spread)
                self.assertEqual(demand_statuses(held), demand_statuses(twin))
                self.assertEqual([(spot.number, node_for(spot.node), spot.depth, spot.nexts) for spot in held],
                                 [(spot.number, spot.node, spot.depth, spot.nexts) for spot in twin])

    def test_products_and_openings(self):
        opened = 0
        for house, other in self.houses():
            names = [routine.name for routine in house.routines]
            kind, _, field = house.hall.descriptions[0][:3]
            try:
                products = [Product(given, names[0], names[-1], kind, told)
                            for given, told in ((house, field), (other, FIELDS[field]))]
                self.assertEqual(*[[product.distance_to(state) for state in product.states] for product in products])
                self.assertEqual(*[len(product.open_states()) for product in products])
            except TooLarge:
                continue
            for name in names:
                for point, told in enumerate(Spread(house, name).points):
                    if told.step[0] in ("read", "keep"):
                        try:
                            found = [find_opening(given, name, point) for given in (house, other)]
                        except TooLarge:
                            continue
                        self.assertEqual(*[one and (one.hands, one.length, one.turns) for one in
                                           (found[0] and self.translated(found[0]), found[1])])
                        opened += found[0] is not None
        self.assertGreater(opened, 50)

    def translated(self, opening):
        """The opening with the names of the fields in its changes; no other turn names a field or a tag."""
        opening.turns = tuple((hand, move[:2] + (FIELDS[move[2]],) + move[3:] if move[0] == "change" else move)
                              for hand, move in opening.turns)
        return opening

    def test_machines(self):
        rng = random.Random(17)
        made = 0
        for house, other in self.houses():
            firsts = random_firsts(rng, house)
            floor = Floor(house, firsts)
            mover = Mover(rng, floor)
            machine, twin = Machine(house, firsts), Machine(other, firsts)
            for _ in range(40):
                hand, move = mover.turn(0)
                if floor.refusal(hand, move) is not None:
                    continue
                floor.make(hand, move)
                machine.turn(hand, move)
                twin.turn(hand, move[:2] + (FIELDS[move[2]],) + move[3:] if move[0] == "change" else move)
                made += 1
            self.assertEqual(machine.heap_now.object_rows, twin.heap_now.object_rows)
            self.assertEqual((machine.shows_made, machine.faults_made), (twin.shows_made, twin.faults_made))
            for hand in range(len(machine)):
                one, two = machine.hand_at(hand), twin.hand_at(hand)
                self.assertEqual(node_for((one.point, one.guards)), (two.point, two.guards))
                for name, _ in house.routine_of(one.routine).names:
                    self.assertEqual((one.leads_to(name), one.sheet_of(name)),
                                     (two.leads_to(OBJECTS[name]), two.sheet_of(OBJECTS[name])))
        self.assertGreater(made, 2000)

    def test_rings_writers_and_lots(self):
        counts = [0, 0]
        for house, other in self.houses():
            self.assertEqual(list(requests_of(house)), list(requests_of(other)))
            if house_nests(house):
                found = [find_ring(given) for given in (house, other)]
                self.assertEqual(*[one and (one.requests, one.total, one.turns) for one in found])
                counts[0] += found[0] is not None
            try:
                tables = [[demand_statuses(OthersTable(Spread(given, routine.name))) for routine in given.routines]
                          for given in (house, other)]
                self.assertEqual(*tables)
                for kind, field in house.sorts:
                    self.assertEqual(writer_sets(house, kind, field), writer_sets(other, kind, FIELDS[field]))
                self.assertEqual(unnamed_places(house), unnamed_places(other))
                if len(unnamed_places(house)) < 4:
                    self.assertEqual(least_lots(house), least_lots(other))
                    counts[1] += least_lots(house) != ()
            except TooLarge:
                continue
        self.assertGreater(min(counts), 10)

    def test_verdicts_and_rewritten_houses(self):
        counts = {}
        for house, other in self.houses():
            try:
                verdicts = [Verdict(given) for given in (house, other)]
                self.assertEqual(*[one.lines() for one in verdicts])
                self.assertEqual(*[(bare_places(given), stale_places(given), idle_takes(given)) for given in (house, other)])
                self.assertEqual(renamed(early_house(house)).text(), early_house(other).text())
                self.assertEqual(renamed(rewritten(house)).text(), rewritten(other).text())
                self.assertEqual(replaceable(house), replaceable(other))
            except TooLarge:
                continue
            counts[verdicts[0].is_right] = counts.get(verdicts[0].is_right, 0) + 1
        self.assertGreater(min(counts.values()), 10)

    def test_earned_signatures(self):
        earning = 0
        for house, other in self.houses():
            for routine in house.routines:
                names = [name for name, _ in routine.names][:3]
                try:
                    found = [earned(house, routine.name, names), earned(other, routine.name, [OBJECTS[name] for name in names])]
                except (NotFit, TooLarge):
                    continue
                marks = [mark[:2] + (FIELDS[mark[2]],) if mark[0] == "writes" else mark for mark in found[0].marks]
                self.assertEqual(tuple(marks), found[1].marks)
                earning += 1
        self.assertGreater(earning, 60)

    def test_named_houses_whose_names_are_taken(self):
        """Object names, guards and locks may be called as naming calls guards."""
        text = ("lock n0\nlock n3\nkind n1 n0 n0\nbody n4 : +n0 =n0\nroutine n2 n0:n1 n2:n1\ndo take n3\n"
                "do take n0 as n4, read n0 n0\nwith call n4\ndo take n3, keep n0 n0\nclose\ndone")
        house = House.read(text)
        named_house = naming(house, unnamed_places(house))
        self.assertEqual([row.text() for row in named_house.routine_of("n2").rows][:4], [
            "do take n3 as n1", "do take n0 as n4, read n0 n0", "with call n4 as n3", "do take n3 as n5, keep n0 n0"])
        self.assertEqual(Verdict(house).lines()[0], "nests: yes")
        self.assertEqual(error_of(least_lots, house), None)


if __name__ == "__main__":
    unittest.main()
