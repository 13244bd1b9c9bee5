"""The examples of the interface, with the answers that it prints."""

import unittest

from handsroom.answers import Setting, first_wrong, own_stacks, parting
from handsroom.bareness import find_bare, touch_statuses
from handsroom.changing import naming
from handsroom.guards import ended_at
from handsroom.houses import House
from handsroom.kinds import Hall
from handsroom.loneruns import Run, play
from handsroom.routines import blocks, next_rows, row_path, scopes
from handsroom.signatures import Signature
from handsroom.spreading import Spread
from handsroom.tables import RoomTable


class ExampleTest(unittest.TestCase):
    def test_signatures(self):
        hall = Hall(["a", "b"], ("box", "a", "size"), ("bag", None, "size"))
        pay = Signature(hall, "box", marks=[("shares", 0), ("takes", "b"), ("takes", "a"), ("under", "a", "b")])
        self.assertEqual(
            [pay.text(), (pay - ("takes", "a")).marks, hall.text()],
            ['box* : +a +b a>b', (('takes', 'b'), ('shares', 0)),
             'lock a\nlock b\nkind box a size\nkind bag - size'])

    def test_answers(self):
        hall = Hall(["a", "b"], ("box", "a", "size"))
        some = Signature.read(hall, ": +a +b a>b box.size")
        moves = [("want", "a"), ("take",), ("change", 0, "size", 7), ("want", "b"), ("take",)]
        wrong = first_wrong(some, Setting(hall, [("box", True)], held=["b"]), moves)
        self.assertEqual(
            [wrong, own_stacks(some), parting(some, some - ("takes", "b"))[1]],
            [4, ((), ('a',), ('b',), ('a', 'b')), (('want', 'b'),)])

    def test_routines(self):
        house = House.read("lock a\nkind box a size\nroutine r x:box\neither\ndo take a as g, read x size\nor\n"
                           "repeat\ndo skip\nclose\nclose\ndone")
        r = house.routine_of("r")
        self.assertEqual(
            [blocks(r), next_rows(r), scopes(r)[2], row_path(r, [1, 0, 1])],
            [((0, 2, 6), (3, None, 5)), ((1, 3), (2,), (7,), (4, 6), (5,), (3,), (7,)), ('g',),
             (0, 3, 4, 5, 3, 6, 7)])

    def test_changing(self):
        house = House.read("lock a\nkind box a size\nroutine r x:box\ndo take a\ndo read x size\ndone")
        self.assertEqual(naming(house, [("r", 0, 0)]).text(),
                         'lock a\nkind box a size\nroutine r x:box\ndo take a as n0\ndo read x size\ndone')

    def test_spreading(self):
        house = House.read("lock a\nlock b\nkind item - n\nroutine r x:item\nwith take a\ndo read x n, take b\n"
                           "close\ndone")
        spread = Spread(house, "r")
        self.assertEqual(
            [spread.points[2].step, spread.points[2].nexts, spread.points[3].step, ended_at(house, "r", 2),
             len(spread)],
            [('take', 'b', '1.1'), (3,), ('drop', '1.1'), ('0.0',), 6])

    def test_loneruns(self):
        house = House.read("lock m\nkind box m size\nroutine r a:box\ndo make a, put a, read a size\ndone")
        played = play(Spread(house, "r"), ((0, ()), (1, ()), (2, ())), Run([("box", (1,))], (0,), (None, None)))
        self.assertEqual(
            (played.leads, played.own, played.sheets, played.shown, played.faults),
            (((0,), (1,), (1,)), ((), (1,), ()), (((None,),), ((0,),), ((0,),)), (None, None, 0),
             (None, None, 'bare')))

    def test_bareness(self):
        house = House.read("lock m\nkind box m size\nroutine r a:box\nwith take m\ndo write a size\nclose\n"
                           "do read a size\ndone")
        self.assertEqual((len(find_bare(house).way), touch_statuses(RoomTable(Spread(house, "r")))),
                         (4, (None, 'safe', None, 'bare', None)))


if __name__ == "__main__":
    unittest.main()
