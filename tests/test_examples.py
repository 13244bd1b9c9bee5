"""The examples of the interface, with the answers that it prints."""

import contextlib
import io
import os
import re
import unittest

from handsroom.answers import Setting, first_wrong, own_stacks, parting
from handsroom.bareness import find_bare, touch_statuses
from handsroom.changing import naming
from handsroom.guards import ended_at
from handsroom.earning import earned
from handsroom.errors import NoLockOrder
from handsroom.houses import House
from handsroom.judging import HeldTable, demand_statuses, find_stale
from handsroom.kinds import Hall
from handsroom.loneruns import Run, play
from handsroom.needs import requests_of, stand_for
from handsroom.orders import lock_order
from handsroom.report import report
from handsroom.requests import Requests
from handsroom.routines import blocks, next_rows, row_path, scopes
from handsroom.signatures import Signature
from handsroom.spared import kept, spared
from handsroom.spreading import Spread
from handsroom.standard import standard_moves
from handsroom.tables import RoomTable
from handsroom.tails import free_rows
from handsroom.twohands import find_stale_woven, spared_for_all
from handsroom.verdicts import Verdict
from handsroom.writers import is_gated, writer_sets


README = os.path.join(os.path.dirname(os.path.dirname(os.path.abspath(__file__))), "README.md")


class ReadmeTest(unittest.TestCase):
    def test_the_blocks_print_what_they_say(self):
        with open(README, encoding="utf-8") as told:
            blocks_of_code = re.findall(r"```python\n(.*?)```", told.read(), re.S)
        self.assertEqual(len(blocks_of_code), 3)
        for block in blocks_of_code:
            printed = io.StringIO()
            with contextlib.redirect_stdout(printed):
                exec(block, {})
            self.assertEqual(printed.getvalue().splitlines(), re.findall(r"^print.* # (.*)$", block, re.M))


class ExampleTest(unittest.TestCase):
    def test_signatures(self):
        hall = Hall(["a", "b"], ("box", "a", "size"), ("bag", None, "size"))
        pay = Signature(hall, "box", marks=[("shares", 0), ("takes", "b"), ("takes", "a"), ("under", "a", "b")])
        self.assertEqual(
            [pay.text(), (pay - ("takes", "a")).marks, hall.text()],
            ['box* : +a +b a>b', (('takes', 'b'), ('shares', 0)),
             'lock a\nlock b\nkind box a size\nkind bag - size'])

    def test_answers(self):
        hall = Hall(["a", "b"], ("box", "a", "size"))
        some = Signature.read(hall, ": +a +b a>b box.size")
        moves = [("want", "a"), ("take",), ("change", 0, "size", 7), ("want", "b"), ("take",)]
        wrong = first_wrong(some, Setting(hall, [("box", True)], held=["b"]), moves)
        self.assertEqual(
            [wrong, own_stacks(some), parting(some, some - ("takes", "b"))[1]],
            [4, ((), ('a',), ('b',), ('a', 'b')), (('want', 'b'),)])

    def test_routines(self):
        house = House.read("lock a\nkind box a size\nroutine r x:box\neither\ndo take a as g, read x size\nor\n"
                           "repeat\ndo skip\nclose\nclose\ndone")
        r = house.routine_of("r")
        self.assertEqual(
            [blocks(r), next_rows(r), scopes(r)[2], row_path(r, [1, 0, 1])],
            [((0, 2, 6), (3, None, 5)), ((1, 3), (2,), (7,), (4, 6), (5,), (3,), (7,)), ('g',),
             (0, 3, 4, 5, 3, 6, 7)])

    def test_changing(self):
        house = House.read("lock a\nkind box a size\nroutine r x:box\ndo take a\ndo read x size\ndone")
        self.assertEqual(naming(house, [("r", 0, 0)]).text(),
                         'lock a\nkind box a size\nroutine r x:box\ndo take a as n0\ndo read x size\ndone')

    def test_spreading(self):
        house = House.read("lock a\nlock b\nkind item - n\nroutine r x:item\nwith take a\ndo read x n, take b\n"
                           "close\ndone")
        spread = Spread(house, "r")
        self.assertEqual(
            [spread.points[2].step, spread.points[2].nexts, spread.points[3].step, ended_at(house, "r", 2),
             len(spread)],
            [('take', 'b', '1.1'), (3,), ('drop', '1.1'), ('0.0',), 6])

    def test_loneruns(self):
        house = House.read("lock m\nkind box m size\nroutine r a:box\ndo make a, put a, read a size\ndone")
        played = play(Spread(house, "r"), ((0, ()), (1, ()), (2, ())), Run([("box", (1,))], (0,), (None, None)))
        self.assertEqual(
            (played.leads, played.own, played.sheets, played.shown, played.faults),
            (((0,), (1,), (1,)), ((), (1,), ()), (((None,),), ((0,),), ((0,),)), (None, None, 0),
             (None, None, 'bare')))

    def test_bareness(self):
        house = House.read("lock m\nkind box m size\nroutine r a:box\nwith take m\ndo write a size\nclose\n"
                           "do read a size\ndone")
        self.assertEqual((len(find_bare(house).way), touch_statuses(RoomTable(Spread(house, "r")))),
                         (4, (None, 'safe', None, 'bare', None)))

    def test_judging(self):
        house = House.read("lock m\nkind box m size\nbody tidy : +m box.size\nroutine r a:box\ndo read a size\n"
                           "with take m\ndo call tidy, keep a size\nclose\ndo call tidy, keep a size\ndone")
        self.assertEqual((demand_statuses(HeldTable(Spread(house, "r"))), len(find_stale(house).way)),
                         (('needed', None, None, 'spared', None, None, 'needed', None), 7))

    def test_spared(self):
        house = House.read("kind box - size\nroutine r a:box\ndo read a size, read a size\ndone")
        self.assertEqual((spared(house), kept(house).text()),
                         ((('r', 0, 1),), 'kind box - size\nroutine r a:box\ndo read a size, keep a size\ndone'))

    def test_standard(self):
        house = House.read("lock a\nkind k a f\nbody b : +a =a\nroutine r x:k\ndo call b as g\ndo fetch x x\ndone")
        self.assertEqual(
            standard_moves(house, "r", [(0, ()), (1, (("g", "a"),)), (2, (("g", "a"),))]),
            (('start', 'r', (0,)), ('enter',), ('want', 'a'), ('take',), ('leave', 'a', 1), ('go', 1, 2)))

    def test_orders(self):
        with self.assertRaises(NoLockOrder) as caught:
            lock_order(Requests(("a", "b", "g"), [(("a", "g"), "b", 2), (("b", "g"), "a", 2)]))
        self.assertEqual(caught.exception.cycle, ('a', 'b'))

    def test_twohands(self):
        text = "kind k - n\nroutine a x:k\ndo read x n, read x n\ndo keep x n\ndone"
        alone = House.read(text)
        found = find_stale_woven(House.read(text + "\nroutine b y:k\ndo write y n\ndone"))
        self.assertEqual(
            [find_stale_woven(alone), spared_for_all(alone), found.routine, found.point, found.hands, found.length],
            [None, (('a', 0, 1),), 'a', 2, 2, 3])

    def test_needs(self):
        house = House.read("lock a\nlock b\nkind k - n\nbody h : +a +b a>b\nroutine run\nwith take b\ndo call h\nclose\n"
                           "done")
        stand = stand_for(house, (("a", "b"), "b"))
        self.assertEqual(
            [list(requests_of(house)), stand.lock_stack, stand.moves[2:]],
            [[((), 'b'), (('a', 'b'), 'b'), (('b',), 'a'), (('b',), 'b')], ('b', 'a'),
             (('enter',), ('want', 'a'), ('take',), ('want', 'b'))])

    def test_writers(self):
        house = House.read("lock g\nlock l\nkind k l n\nbody h : +l k.n\nroutine a x:k\nwith take g\n"
                           "do call h, write x n\nclose\ndone")
        self.assertEqual(
            [writer_sets(house, "k", "n"), is_gated(house, "k", "n", ["g"]), is_gated(house, "k", "n", ["l"])],
            [(('g',), ('g', 'l')), True, False])

    def test_earning(self):
        house = House.read("lock a\nkind box a size\nroutine r x:box y:box\ndo take a as g, read x size\ndo make y\n"
                           "do write y size\ndone")
        self.assertEqual([free_rows(house, "r", "g"), earned(house, "r", ["x"]).text()], [(1, 2), 'box : +a'])

    def test_verdicts(self):
        house = House.read("lock a\nkind box a size\nroutine r x:box\ndo take a\ndo read x size\ndone")
        self.assertEqual(
            [Verdict(house).is_right, Verdict(house).lines()],
            [False, ('nests: yes', 'bare: hands 1, length 2, routine r, point 2', 'stale: no', 'ring: no', 'right: no')])

    def test_report(self):
        self.assertEqual(
            report(House.read("lock a\nkind box a size\nroutine r x:box\ndo take a, read x size\ndone")),
            'routine r\n  0 take a 0.0           -          -\n  1 read x size          a          open\n'
            '  2 drop 0.0             a          -\n  3 stop                 -          -\nnests: yes\nbare: no\n'
            'stale: no\nring: no\nright: yes')


if __name__ == "__main__":
    unittest.main()
