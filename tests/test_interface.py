"""The interface: each name in its module, with its arguments, and each listed method in its own class."""

import importlib
import inspect
import unittest

FUNCTIONS = {
    "words": {"is_name": "value"},
    "answers": {
        "first_wrong": "signature setting moves", "is_answer": "signature setting moves",
        "used_marks": "setting moves *giving=False", "least_signature": "hall places cases *giving=False",
        "own_stacks": "signature", "wishes": "signature", "parting": "first second"},
    "deeds": {"is_deed": "value", "deed_text": "deed", "read_deed": "text", "guard_name": "deed", "named": "deed guard"},
    "routines": {
        "each_deed": "routine", "part_ends": "routine", "next_rows": "routine", "scopes": "routine", "blocks": "routine",
        "row_path": "routine choices", "choices_of": "routine path"},
    "changing": {
        "keeping": "house places", "naming": "house places", "leaving_out": "house places",
        "ending": "house name number guard", "alone": "house names"},
    "guards": {"makers": "house name", "ended_at": "house name row"},
    "lonetable": {
        "locks_of": "guards", "next_nodes": "spread node", "lone_path": "spread nodes", "missing_nodes": "spread nodes",
        "is_closed": "spread nodes"},
    "records": {
        "first_record": "spread", "record_after": "spread record step", "relation": "spread record x y",
        "records": "spread path"},
    "touches": {"touched": "spread step", "bare_names": "spread node record"},
    "loneruns": {"play": "spread path run"},
    "joining": {"first_clash": "spread path **groups", "joined_run": "spread path **groups"},
    "bareness": {"touch_statuses": "table", "find_bare": "house", "is_settled": "house"},
    "marks": {
        "first_marked": "spread", "marked_after": "spread held record step", "lost": "spread record sorts"},
    "runs": {"marked_records": "spread path", "stale_run": "spread path name field"},
    "judging": {"demand_statuses": "table", "find_stale": "house"},
    "spared": {"spared": "house", "kept": "house"},
    "replay": {
        "length_of": "weaving", "replay": "house firsts weaving", "default_move": "machine hand", "finish": "machine"},
    "standard": {
        "standard_firsts": "house", "moves_along": "house routine nodes objects answers",
        "standard_moves": "house routine nodes *stack=None *wanted=None"},
    "nesting": {"first_breach": "table", "crossings": "table", "nests": "house name", "house_nests": "house"},
    "ends": {"life": "table tag", "endings": "spread nodes"},
    "weavings": {"leave_out": "house firsts weaving hands", "conflict_of": "machine first second"},
    "requests": {"proper_requests": "requests", "self_requests": "requests"},
    "cycles": {
        "request_cycles": "requests *hands", "total_length": "requests cycle", "least_cycle": "requests",
        "least_cycle_within": "requests locks"},
    "chains": {"chains_of": "requests", "closes": "chain"},
    "orders": {"lock_pairs": "requests", "shortest_lock_cycle": "locks pairs", "lock_order": "requests"},
    "shown": {"weaving_along": "product way"},
    "twohands": {
        "open_points": "house name", "open_places": "house", "find_opening": "house name point",
        "find_stale_woven": "house", "spared_for_all": "house", "kept_for_all": "house"},
    "needs": {"requests_at": "spread node", "requests_of": "house", "stand_for": "house request"},
    "holds": {"final_takings": "stand", "taken_since": "stand"},
    "interleaving": {"comes_before": "stands", "clash_of": "house stands", "weave": "house stands"},
    "certificates": {"ring_table": "house", "ring_gaps": "house stations chains"},
    "rings": {"least_ring": "requests", "find_ring": "house"},
    "writers": {"writer_sets": "house kind field", "is_gated": "house kind field held"},
    "lots": {
        "unnamed_places": "house", "cover": "house place", "mends": "house lot *bare=True *stale=True",
        "least_lots": "house *bare=True *stale=True"},
    "carrying": {
        "carried": "house lot firsts weaving", "carried_early": "house name row guard firsts weaving"},
    "tails": {"free_rows": "house name guard", "early_house": "house"},
    "idle": {"idle_takes": "house"},
    "apartness": {"common_locks": "house other", "fall_apart": "house other"},
    "missing": {"widest": "house body upto"},
    "partinghouses": {"parting_houses": "first second"},
    "earning": {"earned": "house name arguments"},
    "cases": {"cases_of": "house name arguments"},
    "verdicts": {"bare_places": "house", "stale_places": "house"},
    "rewriting": {"replaceable": "house", "rewritten": "house"},
    "report": {"report": "house"},
}
CLASSES = {
    "kinds": {"Hall": ("locks **descriptions", "__eq__ guard_of fields_of text")},
    "signatures": {"Signature": ("hall **places *marks=()", (
        "__iter__ __len__ __contains__ __eq__ __or__ __and__ __sub__ alike within text fullest read"))},
    "answers": {"Setting": ("hall objects **passed *held=()", "")},
    "rows": {"Row": ("word **deeds *guard=''", "__eq__ text read")},
    "routines": {"Routine": ("name names rows", "__eq__ kind_of text")},
    "houses": {"House": ("hall bodies routines", (
        "__eq__ read text guard_of fields_of signature_of routine_of makes_guard with_signature with_rows __add__"))},
    "guards": {"Maker": (None, "")},
    "spreading": {"Point": (None, ""), "Spread": (
        "house name", "__len__ stop_point points_of first_point maker_point drop_points")},
    "lonetable": {"LoneTable": ("spread", (
        "__len__ __contains__ __iter__ number_of distance_to parent_of path_to nodes_at held_sets always ever "
        "stuck_nodes"))},
    "records": {"Record": ("blocks own apart", "block_of key as_sure_as")},
    "loneruns": {"Run": ("objects start answers", ""), "Played": (None, "")},
    "tables": {"Spot": (None, ""), "RoomTable": ("spread", "__len__ __iter__ spots_at way_to spot_of MOST_SPOTS")},
    "bareness": {"Finding": ("name way run", "")},
    "marks": {"Marked": ("blocks own apart known", "__init__ knows key as_sure_as")},
    "judging": {"HeldTable": ("spread", "__init__ is_known")},
    "heap": {"Heap": (None, "begun object_rows __len__ shared_of")},
    "hands": {"Hand": (None, "leads_to sheet_of")},
    "machine": {"Machine": ("house firsts", (
        "__len__ heap_now turns_made shows_made faults_made turn attempt hand_at step_at nexts_at wants waits_for "
        "holder ring duplicate"))},
    "requests": {"Requests": ("locks rows", "__iter__ __len__ __contains__ __getitem__ __or__ kept_to")},
    "products": {"Product": ("house keeper other kind field", (
        "MOST_STATES __iter__ __len__ __contains__ steps_at distance_to way_to is_open open_states"))},
    "twohands": {"Opening": (None, "")},
    "stands": {"Stand": ("house routine nodes *stack=None *wanted=None", "__init__")},
    "rings": {"RingFinding": (None, "")},
    "others": {"OthersTable": ("spread", "__init__ open_sorts")},
    "verdicts": {
        "Verdict": ("house", "__init__ lines"), "Fault": (None, "lines"), "Bare": (None, "lines"), "Stale": (None, "lines"),
        "Ring": (None, "lines")},
}
VALUES = {"words": ["RESERVED", "RULES"], "lonetable": ["START"]}


def arguments(function):
    """The arguments of a function, in the short form of the tables above."""
    found = []
    for name, told in inspect.signature(function).parameters.items():
        if told.kind is inspect.Parameter.VAR_POSITIONAL:
            name = "**" + name
        if told.kind is inspect.Parameter.KEYWORD_ONLY:
            name = "*" + name
        found.append(name if told.default is inspect.Parameter.empty else f"{name}={told.default!r}")
    return " ".join(found)


class InterfaceTest(unittest.TestCase):
    def test_functions(self):
        for file, functions in FUNCTIONS.items():
            module = importlib.import_module("handsroom." + file)
            for name, told in functions.items():
                function = getattr(module, name)
                self.assertEqual(function.__module__, module.__name__, name)
                self.assertEqual(arguments(function), told, name)

    def test_classes(self):
        for file, classes in CLASSES.items():
            module = importlib.import_module("handsroom." + file)
            for name, (told, methods) in classes.items():
                found = getattr(module, name)
                self.assertEqual(found.__module__, module.__name__, name)
                if told is not None:
                    self.assertEqual(arguments(found), told, name)
                for method in methods.split():
                    self.assertIn(method, vars(found), (name, method))

    def test_kinds_of_methods(self):
        from handsroom.houses import House
        from handsroom.rows import Row
        from handsroom.signatures import Signature
        from handsroom.spreading import Spread
        for owner, name in [(House, "read"), (Row, "read"), (Signature, "read"), (Signature, "fullest")]:
            self.assertIsInstance(vars(owner)[name], staticmethod)
        self.assertIsInstance(vars(Spread)["stop_point"], property)
        self.assertEqual(arguments(Signature.fullest), "hall **places *giving=False")
        self.assertEqual(arguments(Signature.read), "hall text")
        from handsroom.records import Record
        self.assertNotIn("__eq__", vars(Record))

    def test_kinds_of_members_of_machines(self):
        from handsroom.heap import Heap
        from handsroom.judging import HeldTable
        from handsroom.machine import Machine
        from handsroom.marks import Marked
        from handsroom.products import Product
        from handsroom.records import Record
        from handsroom.tables import RoomTable
        self.assertEqual((Marked.__bases__, HeldTable.__bases__), ((Record,), (RoomTable,)))
        self.assertIsInstance(vars(Heap)["begun"], classmethod)
        self.assertEqual(arguments(Heap.begun), "house firsts")
        for owner, names in [(Heap, ["object_rows"]), (Machine, ["heap_now", "turns_made", "shows_made", "faults_made"])]:
            for name in names:
                self.assertIsInstance(vars(owner)[name], property)
        for owner, told in [(Machine.turn, "self hand move"), (Machine.attempt, "self turns"),
                            (Product.steps_at, "self state"), (Marked.knows, "self name field")]:
            self.assertEqual(arguments(owner), told)
        self.assertEqual((Product.MOST_STATES, HeldTable.MOST_SPOTS), (4000, 600))

    def test_kinds_of_faults(self):
        from handsroom.verdicts import Bare, Fault, Ring, Stale
        for kind in (Bare, Stale, Ring):
            self.assertEqual(kind.__bases__, (Fault,))

    def test_generators(self):
        from handsroom.certificates import ring_gaps
        from handsroom.cycles import request_cycles
        from handsroom.runs import marked_records
        for function in (request_cycles, marked_records, ring_gaps):
            self.assertTrue(inspect.isgeneratorfunction(function))

    def test_values(self):
        for file, names in VALUES.items():
            for name in names:
                self.assertIsInstance(getattr(importlib.import_module("handsroom." + file), name), tuple)


if __name__ == "__main__":
    unittest.main()
