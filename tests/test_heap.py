"""[34], [51]: heaps."""

import unittest

from helpers import NO_NUMBERS, ODD_VALUES, error_of
from handsroom.heap import Heap
from handsroom.houses import House
from handsroom.machine import Machine

HOUSE = House.read("lock a\nkind box a f g\nkind bag - n\nroutine r x:box\ndo make x, put x\ndone")


class HeapTest(unittest.TestCase):
    def test_begun(self):
        for firsts in ([("box", [1, 2]), ("bag", (3,)), ("box", (4, -5))],
                       (("box", (1, 2)), ("bag", [3]), ("box", [4, -5]))):
            heap = Heap.begun(HOUSE, firsts)
            self.assertIsInstance(heap, Heap)
            self.assertEqual(heap.object_rows, (("box", (1, 2), None), ("bag", (3,), None), ("box", (4, -5), None)))
            self.assertEqual((len(heap), heap.shared_of("box"), heap.shared_of("bag")), (3, (0, 2), (1,)))
        big = 10 ** 60 - 1
        self.assertEqual(Heap.begun(HOUSE, [("bag", (big,)), ("box", (-big, 0))]).object_rows[1][1], (-big, 0))

    def test_a_list_that_changes_later_changes_nothing(self):
        numbers = [1, 2]
        firsts = [("box", numbers), ("bag", (3,))]
        for made in (Heap.begun(HOUSE, firsts), Machine(HOUSE, firsts).heap_now):
            numbers[0] = 7
            self.assertEqual(made.object_rows[0], ("box", (1, 2), None))
            numbers[0] = 1
        machine = Machine(HOUSE, firsts)
        numbers[0] = 7
        firsts.append(("bag", (9,)))
        self.assertEqual(machine.duplicate().heap_now.object_rows, (("box", (1, 2), None), ("bag", (3,), None)))

    def test_wrong_kinds(self):
        for ask in (Heap.begun, Machine):
            for value in ODD_VALUES + ("a", "f", "r", 0):
                self.assertEqual(error_of(ask, HOUSE, [("box", (1, 2)), (value, None)]), ("NoSuch", value))

    def test_wrong_numbers(self):
        values = [value for value in ODD_VALUES if value not in ("a b",)] + ["12", (1,), (1, 2, 3), [1], {1: 1, 2: 2}]
        for ask in (Heap.begun, Machine):
            for value in values:
                self.assertEqual(error_of(ask, HOUSE, [("bag", (1,)), ("box", value), ("none", ())]), ("WrongFirst", 1))
            for value in NO_NUMBERS:
                self.assertEqual(error_of(ask, HOUSE, [("box", (1, value))]), ("WrongFirst", 0))
                self.assertEqual(error_of(ask, HOUSE, [("box", (value, 1))]), ("WrongFirst", 0))

    def test_the_order_of_the_errors(self):
        for ask in (Heap.begun, Machine):
            self.assertEqual(error_of(ask, HOUSE, []), ("NoFirst", "box"))
            self.assertEqual(error_of(ask, HOUSE, [("box", (1, 2))]), ("NoFirst", "bag"))
            self.assertEqual(error_of(ask, HOUSE, [("bag", (1,))]), ("NoFirst", "box"))
            self.assertEqual(error_of(ask, HOUSE, [("box", (1,)), ("none", ())]), ("WrongFirst", 0))
            self.assertEqual(error_of(ask, HOUSE, [("none", ()), ("box", (1,))]), ("NoSuch", "none"))
            self.assertEqual(error_of(ask, HOUSE, [("box", (1, 2)), ("box", (1,))]), ("WrongFirst", 1))

    def test_shared_of(self):
        machine = Machine(HOUSE, [("box", (1, 2)), ("bag", (3,))])
        machine.turn(0, ("start", "r", (0,)))
        machine.turn(0, ("go", None, 1))
        own = machine.heap_now
        self.assertEqual((own.object_rows[2], own.shared_of("box"), len(own)), (("box", (0, 0), 0), (0,), 3))
        machine.turn(0, ("go", None, 2))
        self.assertEqual((machine.heap_now.object_rows[2], machine.heap_now.shared_of("box")), (("box", (0, 0), None), (0, 2)))
        # A heap tells of one moment.
        self.assertEqual(own.shared_of("box"), (0,))
        for value in ODD_VALUES + ("a", "f", 0):
            self.assertEqual(error_of(own.shared_of, value), ("NoSuch", value))

    def test_kinds_of_the_members(self):
        self.assertIsInstance(vars(Heap)["begun"], classmethod)
        self.assertIsInstance(vars(Heap)["object_rows"], property)


if __name__ == "__main__":
    unittest.main()
