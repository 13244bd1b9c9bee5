"""[0.4]: both kinds of sequence, tuples as results, nothing passed is modified, the order of errors."""

import copy
import unittest

from helpers import BASIC, TEXTS, WORDS
from test_machine import state_of
from handsroom.answers import Setting, first_wrong, is_answer, least_signature, used_marks
from handsroom.bareness import find_bare
from handsroom.carrying import carried, carried_early
from handsroom.cases import cases_of
from handsroom.certificates import ring_gaps, ring_table
from handsroom.changing import alone, keeping, leaving_out, naming
from handsroom.cycles import least_cycle, least_cycle_within, total_length
from handsroom.earning import earned
from handsroom.ends import endings
from handsroom.heap import Heap
from handsroom.houses import House
from handsroom.idle import idle_takes
from handsroom.interleaving import clash_of, comes_before, weave
from handsroom.joining import first_clash, joined_run
from handsroom.judging import HeldTable
from handsroom.kinds import Hall
from handsroom.lonetable import START, LoneTable, is_closed, lone_path, missing_nodes
from handsroom.loneruns import Run, play
from handsroom.lots import least_lots, mends, unnamed_places
from handsroom.machine import Machine
from handsroom.marks import lost
from handsroom.orders import shortest_lock_cycle
from handsroom.products import Product
from handsroom.records import records
from handsroom.replay import length_of, replay
from handsroom.report import report
from handsroom.requests import Requests
from handsroom.rewriting import replaceable, rewritten
from handsroom.rings import find_ring
from handsroom.routines import Routine, choices_of, row_path
from handsroom.runs import marked_records, stale_run
from handsroom.shown import weaving_along
from handsroom.signatures import Signature
from handsroom.spreading import Spread
from handsroom.stands import Stand
from handsroom.standard import moves_along, standard_moves
from handsroom.tables import RoomTable
from handsroom.tails import early_house
from handsroom.twohands import find_opening, find_stale_woven, open_places
from handsroom.verdicts import Verdict
from handsroom.weavings import leave_out
from handsroom.writers import is_gated

SIMPLE = House.read("lock a\nkind k - n\nroutine r x:k\nwith take a\ndo read x n\nclose\ndone")


def plain(value):
    """A value with the objects of the package in it as their fields, to compare results."""
    if isinstance(value, (list, tuple)):
        return tuple(plain(one) for one in value)
    if hasattr(value, "__dict__"):
        return (type(value).__name__,) + tuple((name, plain(one)) for name, one in sorted(vars(value).items()))
    return value


def tuples_only(value):
    """True if no list stands in a value, nor in tuples in it."""
    return not isinstance(value, list) and (not isinstance(value, tuple) or all(tuples_only(one) for one in value))


class GeneralTest(unittest.TestCase):
    def calls(self):
        """Calls with their sequences, each as a function and the arguments that are sequences."""
        house = House.read(WORDS)
        hall, spread = house.hall, Spread(house, "p")
        path = list(LoneTable(spread).path_to(LoneTable(spread).nodes[-1]))
        full = Signature.fullest(hall, "box")
        objects, moves = [("box", True), ("free", True)], [("want", "m"), ("take",), ("back",), ("leave", None)]
        setting = Setting(hall, objects, 0, held=["n"])
        run = joined_run(spread, path)
        routine = house.routine_of("p")
        return [
            (lambda locks: Hall(locks, ("k", None, "n")), [["a", "b"]]),
            (lambda marks: Signature(hall, "box", marks=marks), [[("shares", 0), ("takes", "m")]]),
            (lambda told, held: Setting(hall, told, 0, held=held), [objects, ["m"]]),
            (lambda told: first_wrong(full, setting, told), [moves]),
            (lambda told: is_answer(full, setting, told), [moves]),
            (lambda told: used_marks(setting, told), [moves]),
            (lambda places, cases: least_signature(hall, places, cases), [["box"], [(setting, moves)]]),
            (lambda names, rows: Routine("r", names, rows), [list(routine.names), list(routine.rows)]),
            (lambda told: row_path(routine, told), [[0, 1, 1]]),
            (lambda told: choices_of(routine, told), [list(row_path(routine, [0, 1, 1]))]),
            (lambda bodies, routines: House(hall, bodies, routines), [list(house.bodies), list(house.routines)]),
            (lambda rows: house.with_rows("p", rows), [list(routine.rows)]),
            (lambda places: keeping(house, places), [[("p", 1, 1)]]),
            (lambda places: naming(house, places), [[("q", 2, 0), ("q", 6, 0)]]),
            (lambda places: leaving_out(house, places), [[("q", 6, 0)]]),
            (lambda names: alone(house, names), [["q"]]),
            (lambda nodes: lone_path(spread, nodes), [path]),
            (lambda nodes: missing_nodes(spread, nodes), [path]),
            (lambda nodes: is_closed(spread, nodes), [path]),
            (lambda nodes: list(records(spread, nodes)), [path]),
            (lambda told, start, answers: Run(told, start, answers), [[("box", [1])], [0], [[["back"]], None]]),
            (lambda nodes: play(spread, nodes, run), [path]),
            (lambda nodes, group: first_clash(spread, nodes, group), [path, ["a", "b"]]),
            (lambda nodes, group: joined_run(spread, nodes, group), [path, ["a", "b"]]),
            (lambda nodes: RoomTable(spread).spot_of(nodes), [path]),
        ]

    def later_calls(self):
        """The same for the modules of [41] and behind."""
        house = House.read(WORDS)
        spread = Spread(house, "p")
        path = list(LoneTable(spread).path_to(LoneTable(spread).nodes[-1]))
        known = list(marked_records(spread, path))[-1]
        firsts = [("box", [1]), ("free", (2,)), ("box", [3])]
        turns = [(0, ("start", "q", [0, 1])), (1, ("start", "q", [2, 1])), (0, ("go", None, 1))]
        product = Product(house, "q", "q", "free", "size")
        way = list(product.way_to(product.states[-1]))
        locks, rows = ["b", "a"], [(["a"], "b", 3), (["b", "b"], "a", 1)]
        table = Requests(locks, rows)
        cycle = list(least_cycle(table))
        return [
            (lambda sorts: lost(spread, known, sorts), [[("box", "size"), ("free", "size")]]),
            (lambda nodes: list(marked_records(spread, nodes)), [path]),
            (lambda nodes: stale_run(spread, nodes, "c", "size"), [path]),
            (lambda nodes: HeldTable(spread).spot_of(nodes), [path]),
            (lambda told: Heap.begun(house, told), [firsts]),
            (lambda told: Machine(house, told).heap_now, [firsts]),
            (lambda told, woven: state_of(replay(house, told, woven)), [firsts, turns]),
            (length_of, [turns]),
            (lambda told, woven, hands: leave_out(house, told, woven, hands), [firsts, turns, [1]]),
            (lambda nodes, stack: standard_moves(house, "p", nodes, stack=stack), [path, ["m"]]),
            (lambda nodes, objects, answers: moves_along(house, "p", nodes, objects, answers),
             [path, [0, 1, 2], [() if spread.points[node[0]].step[0] == "call" else None for node in path]]),
            (lambda nodes: endings(spread, nodes), [path]),
            (lambda states: weaving_along(product, states), [way]),
            (Requests, [locks, rows]),
            (lambda some: table.kept_to(some), [["a"]]),
            (lambda told: total_length(table, told), [cycle]),
            (lambda some: least_cycle_within(table, some), [locks]),
            (lambda told, pairs: shortest_lock_cycle(told, pairs), [locks, [("a", "b"), ("b", "a")]]),
        ]

    def last_calls(self):
        """The same for the modules of [65] and behind."""
        house = House.read(WORDS)
        table = LoneTable(Spread(house, "p"))
        path = list(table.path_to((Spread(house, "p").first_point(9), ())))
        stands = [Stand(house, "p", path[:2]), Stand(house, "q", [START])]
        stations, chains = [list(one) for one in ring_table(house)]
        firsts = [("box", [1]), ("free", (2,)), ("box", [3])]
        turns = [(0, ("start", "q", [0, 1])), (1, ("start", "q", [2, 1])), (0, ("go", None, 1))]
        lot = [("q", 2, 0), ("p", 0, 0)]
        lot = [place for place in lot if place in unnamed_places(house)]
        return [
            (lambda nodes, stack: Stand(house, "p", nodes, stack=stack, wanted="n"), [path, ["m"]]),
            (comes_before, [stands]),
            (lambda told: clash_of(house, told), [stands]),
            (lambda told: weave(SIMPLE, told), [[Stand(SIMPLE, "r", [START]), Stand(SIMPLE, "r", [START])]]),
            (lambda one, two: list(ring_gaps(house, one, two)), [stations[3:], chains[1:]]),
            (lambda held: is_gated(house, "box", "size", held), [["n", "m"]]),
            (lambda places: mends(house, places), [lot]),
            (lambda places, told, woven: carried(house, places, told, woven), [lot, firsts, turns]),
            (lambda told, woven: carried_early(house, "q", 9, "h", told, woven), [firsts, turns]),
            (lambda arguments: earned(SIMPLE, "r", arguments), [["x"]]),
            (lambda arguments: cases_of(SIMPLE, "r", arguments), [["x"]]),
        ]

    def all_calls(self):
        return self.calls() + self.later_calls() + self.last_calls()

    def test_lists_and_tuples_do_the_same(self):
        for call, told in self.all_calls():
            first = plain(call(*told))
            self.assertEqual(first, plain(call(*[tuple(one) for one in told])))
            self.assertEqual(first, plain(call(*told)))

    def test_nothing_that_is_passed_is_modified(self):
        for call, told in self.all_calls():
            before = plain(copy.deepcopy(told))
            call(*told)
            self.assertEqual(plain(told), before)

    def test_results_of_several_parts_are_tuples(self):
        for call, told in self.all_calls():
            found = call(*told)
            for part in vars(found).values() if hasattr(found, "__dict__") else [found]:
                self.assertTrue(tuples_only(part) or isinstance(found, list), (told, part))

    def test_two_runs_give_the_same(self):
        for text in TEXTS:
            for name in [routine.name for routine in House.read(text).routines]:
                one, two = [Spread(House.read(text), name) for _ in range(2)]
                self.assertEqual(LoneTable(one).nodes, LoneTable(two).nodes)
        self.assertEqual(plain(find_bare(House.read(BASIC))), plain(find_bare(House.read(BASIC))))
        for ask in (open_places, find_stale_woven, lambda house: find_opening(house, "r", 3)):
            self.assertEqual(plain(ask(House.read(BASIC))), plain(ask(House.read(BASIC))))
        for ask in (Verdict, report, rewritten, early_house, idle_takes, replaceable):
            for text in (BASIC, SIMPLE.text()):
                self.assertEqual(plain(ask(House.read(text))), plain(ask(House.read(text))))
        for ask in (least_lots, ring_table, lambda house: plain(find_ring(house))):
            self.assertEqual(ask(SIMPLE), ask(House.read(SIMPLE.text())))
        one, two = [Product(House.read(WORDS), "q", "q", "free", "size") for _ in range(2)]
        self.assertEqual((one.states, one.open_states()), (two.states, two.open_states()))

    def test_numbers_of_many_digits(self):
        big = 10 ** 60 - 1
        house = House.read("kind k - n\nroutine r x:k\ndo write x n, read x n\ndone")
        played = play(Spread(house, "r"), [(0, ()), (1, ())], Run([("k", (-big,))], (0,), (big,)))
        self.assertEqual((played.shown[1], played.numbers[0]), (big, ((-big,),)))


if __name__ == "__main__":
    unittest.main()
