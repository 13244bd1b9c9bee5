"""[8] to [10]: settings, inside moves, used marks, own stacks, wishes, the parting."""

import itertools
import random
import unittest

from helpers import NO_NUMBERS, ODD_VALUES, THING, error_of
from test_signatures import signatures
from handsroom.answers import (
    Setting, first_wrong, is_answer, least_signature, own_stacks, parting, used_marks, wishes)
from handsroom.kinds import Hall
from handsroom.signatures import Signature

HALL = Hall(["a", "b"], ("box", "a", "size", "n"), ("bag", None, "size"))
SMALL = Hall(["a", "b"], ("box", "a", "n"))
WANT_A, WANT_B, TAKE, BACK, LEAVE = ("want", "a"), ("want", "b"), ("take",), ("back",), ("leave", None)


class SettingTest(unittest.TestCase):
    def test_fields(self):
        objects = [("box", True), ("bag", False), ("box", False)]
        held = ["b"]
        setting = Setting(HALL, objects, 2, 1, 2, held=held)
        objects.append(("bag", True))
        held.append("a")
        self.assertIs(setting.hall, HALL)
        self.assertEqual(setting.objects, (("box", True), ("bag", False), ("box", False)))
        self.assertEqual((setting.passed, setting.held), ((2, 1, 2), ("b",)))
        self.assertEqual(setting.places, ("box", "bag", "box"))
        bare = Setting(HALL, ())
        self.assertEqual((bare.objects, bare.passed, bare.held, bare.places), ((), (), (), ()))

    def assert_rule(self, rule, objects, *passed, held=()):
        self.assertEqual(error_of(Setting, HALL, objects, *passed, held=held), ("BadPart", rule))

    def test_form(self):
        for value in ODD_VALUES:
            self.assert_rule("form", [("box", True), value])
            self.assert_rule("form", [(value, True)])
            if value is not True and value is not False:
                self.assert_rule("form", [("box", value)])
        for value in [["box", True], ("box",), ("box", 1), ("box", 0), ("box", True, True), "box"]:
            self.assert_rule("form", [value])
        for value in NO_NUMBERS:
            self.assert_rule("form", [("box", True)], 0, value)

    def test_other_rules(self):
        one = [("box", True)]
        self.assert_rule("many", one, 0, 0, 0, 0)
        self.assertEqual(Setting(HALL, one, 0, 0, 0).places, ("box", "box", "box"))
        self.assert_rule("twice", one, held=["a", "b", "a"])
        self.assert_rule("twice", one, held=("c", "c"))
        self.assert_rule("unknown", [("cup", True)])
        for number in (-1, 1, 10 ** 60):
            self.assert_rule("unknown", one, 0, number)
        for value in ODD_VALUES[:4] + ("c", "A", ["a"], THING, 0):
            self.assert_rule("unknown", one, held=["a", value])

    def test_the_first_rule_decides(self):
        self.assert_rule("form", [("cup", True), ("box", 1)], 0, 0, 0, 9, held=["a", "a"])
        self.assert_rule("many", [("cup", True)], 0, 0, 0, 9, held=["a", "a"])
        self.assert_rule("twice", [("cup", True)], 9, held=["a", "a", "c"])


def allowed(signature, setting, moves):
    """A second reading of [8]: the index of the first move that cannot be made, None if all can."""
    stack, wanted, left = [], None, False
    marks = set(signature.marks)
    for at, move in enumerate(moves):
        fits = False
        if left:
            return at
        if move == ("take",):
            fits = wanted is not None and wanted not in setting.held
            if fits:
                stack.append(wanted)
                wanted = None
        elif wanted is None and move == ("back",):
            fits = bool(stack)
            stack = stack[:-1]
        elif wanted is None and move[0] == "want":
            fits = ("takes", move[1]) in marks and {("under", held, move[1]) for held in stack} <= marks
            wanted = move[1]
        elif wanted is None and move[0] == "change":
            kind, shared = setting.objects[move[1]]
            lock = dict(zip(setting.hall.kinds, [row[1] for row in setting.hall.descriptions]))[kind]
            reach = move[1] in setting.passed or shared and (lock is None or lock in stack)
            fits = ("writes", kind, move[2]) in marks and reach
        elif wanted is None and move[0] == "leave":
            gives = {mark[1] for mark in marks if mark[0] == "gives"}
            fits = stack == [move[1]] and move[1] in gives if gives else not stack and move[1] is None
            left = True
        if not fits:
            return at
    return None


def random_moves(rng, objects, longest):
    found = []
    for _ in range(rng.randint(0, longest)):
        word = rng.choice(["want", "take", "take", "take", "back", "change", "change", "leave"])
        if word == "want":
            found.append(("want", rng.choice("aab")))
        elif word == "change":
            at = rng.randrange(len(objects))
            found.append(("change", at, rng.choice(HALL.fields_of(objects[at][0])), rng.randint(-9, 9)))
        elif word == "leave":
            if rng.random() < 0.3:
                found.append(("leave", rng.choice([None, "a", "b"])))
        else:
            found.append((word,))
    return found


class MoveTest(unittest.TestCase):
    def setUp(self):
        self.full = Signature.fullest(HALL, "box")
        self.giving = Signature.fullest(HALL, "box", giving=True)
        self.objects = [("box", False), ("box", True), ("bag", True), ("bag", False)]
        self.setting = Setting(HALL, self.objects, 0, held=["b"])

    def wrong(self, *moves, signature=None):
        return first_wrong(signature or self.full, self.setting, list(moves))

    def test_want_and_take(self):
        self.assertIsNone(self.wrong())
        self.assertIsNone(self.wrong(WANT_A, TAKE, WANT_B))
        self.assertEqual(self.wrong(WANT_A, WANT_B), 1)
        self.assertEqual(self.wrong(WANT_A, TAKE, WANT_A), 2)
        self.assertEqual(self.wrong(WANT_B, TAKE), 1)
        self.assertEqual(self.wrong(TAKE), 0)
        self.assertEqual(self.wrong(WANT_A, TAKE, TAKE), 2)
        less = Signature(HALL, "box", marks=[("takes", "a"), ("takes", "b"), ("under", "b", "a")])
        self.assertEqual(self.wrong(WANT_A, TAKE, WANT_B, signature=less), 2)
        self.assertEqual(self.wrong(WANT_B, signature=less - ("takes", "b")), 0)

    def test_under_is_asked_for_each_lock_of_the_own_stack(self):
        hall = Hall(["a", "b", "c"], ("k", None, "n"))
        moves = [WANT_A, TAKE, WANT_B, TAKE, ("want", "c")]
        full = Signature.fullest(hall)
        setting = Setting(hall, [])
        self.assertIsNone(first_wrong(full, setting, moves))
        for mark in [("under", "a", "c"), ("under", "b", "c")]:
            self.assertEqual(first_wrong(full - mark, setting, moves), 4)
        self.assertIsNone(first_wrong(full - ("under", "c", "a"), setting, moves))

    def test_back(self):
        self.assertEqual(self.wrong(BACK), 0)
        self.assertIsNone(self.wrong(WANT_A, TAKE, BACK, WANT_A, TAKE, BACK, LEAVE))
        self.assertEqual(self.wrong(WANT_A, TAKE, BACK, BACK), 3)
        self.assertEqual(self.wrong(WANT_A, BACK), 1)
        self.assertEqual(self.wrong(WANT_A, TAKE, WANT_B, BACK), 3)

    def test_change(self):
        self.assertIsNone(self.wrong(("change", 0, "size", 3), ("change", 2, "size", -10 ** 60)))
        self.assertEqual(self.wrong(("change", 1, "size", 3)), 0)
        self.assertIsNone(self.wrong(WANT_A, TAKE, ("change", 1, "n", 0)))
        self.assertEqual(self.wrong(WANT_A, ("change", 0, "n", 0)), 1)
        self.assertEqual(self.wrong(WANT_A, TAKE, BACK, ("change", 1, "n", 0)), 3)
        self.assertEqual(self.wrong(("change", 3, "size", 3)), 0)
        self.assertEqual(self.wrong(WANT_A, TAKE, ("change", 3, "size", 3)), 2)
        self.assertEqual(self.wrong(("change", 2, "n", 0)), 0)
        less = self.full - ("writes", "box", "n")
        self.assertEqual(self.wrong(("change", 0, "n", 0), signature=less), 0)
        self.assertIsNone(self.wrong(("change", 0, "size", 0), signature=less))
        for number in (-1, 4) + NO_NUMBERS:
            self.assertEqual(self.wrong(("change", number, "size", 1)), 0, number)
        for worth in NO_NUMBERS:
            self.assertEqual(self.wrong(("change", 0, "size", worth)), 0, worth)
        for field in ODD_VALUES:
            self.assertEqual(self.wrong(("change", 0, field, 1)), 0)

    def test_a_lock_held_by_a_guard_is_not_in_the_own_stack(self):
        setting = Setting(HALL, self.objects, 0, held=["a"])
        self.assertEqual(first_wrong(self.full, setting, [("change", 1, "n", 1)]), 0)

    def test_leave(self):
        self.assertIsNone(self.wrong(LEAVE))
        self.assertEqual(self.wrong(LEAVE, LEAVE), 1)
        self.assertEqual(self.wrong(LEAVE, WANT_A), 1)
        self.assertEqual(self.wrong(("leave", "a")), 0)
        self.assertEqual(self.wrong(WANT_A, TAKE, LEAVE), 2)
        self.assertEqual(self.wrong(WANT_A, TAKE, ("leave", "a")), 2)
        self.assertEqual(self.wrong(WANT_A, LEAVE), 1)
        giving = self.giving
        self.assertEqual(self.wrong(LEAVE, signature=giving), 0)
        self.assertIsNone(self.wrong(WANT_A, TAKE, ("leave", "a"), signature=giving))
        self.assertEqual(self.wrong(WANT_A, TAKE, ("leave", "b"), signature=giving), 2)
        self.assertEqual(self.wrong(WANT_A, TAKE, LEAVE, signature=giving), 2)
        self.assertEqual(self.wrong(WANT_A, TAKE, ("leave", "a"), signature=giving - ("gives", "a")), 2)
        free = Setting(HALL, self.objects, 0)
        moves = [WANT_A, TAKE, WANT_B, TAKE, ("leave", "b")]
        self.assertEqual(first_wrong(giving, free, moves), 4)

    def test_other_values_are_no_moves(self):
        for value in ODD_VALUES + (["want", "a"], ("want",), ("want", "a", "b"), ("want", ["a"]), ("take", "a"), "take",
                                   ("go", None), ("back", None), ("leave",), ("leave", None, None), ("change", 0, "size"), ("go",),
                                   ("change", 0, "size", 1, 1), ("enter",), (THING,), (1,), ("Want", "a"), 5):
            self.assertEqual(self.wrong(WANT_A, TAKE, value), 2, value)
            self.assertEqual(self.wrong(value), 0, value)
        for value in [("take", "a"), ("take", None), ["take"], "take", ("takes",)]:
            self.assertEqual(self.wrong(WANT_A, value), 1, value)
        for value in ODD_VALUES:
            if value is not None:
                self.assertEqual(self.wrong(("leave", value)), 0)
            self.assertEqual(self.wrong(("want", value)), 0)

    def test_answers(self):
        self.assertIs(is_answer(self.full, self.setting, []), False)
        self.assertIs(is_answer(self.full, self.setting, [LEAVE]), True)
        self.assertIs(is_answer(self.full, self.setting, (WANT_A, TAKE, BACK)), False)
        self.assertIs(is_answer(self.full, self.setting, (WANT_A, TAKE, BACK, LEAVE)), True)
        self.assertIs(is_answer(self.full, self.setting, [LEAVE, LEAVE]), False)

    def test_unlike(self):
        for signature in [Signature(HALL), Signature(HALL, "bag"), Signature(HALL, "box", "box"),
                          Signature(SMALL, "box")]:
            for ask in (first_wrong, is_answer):
                self.assertEqual(error_of(ask, signature, self.setting, [LEAVE]), ("Unlike",))

    def test_random_lists(self):
        rng = random.Random(3)
        known = [self.full, self.giving] + [
            Signature(HALL, "box", marks=[mark for mark in self.giving if mark[0] == "takes" or rng.random() < 0.5])
            for _ in range(20)]
        good = 0
        for _ in range(4000):
            setting = Setting(HALL, self.objects, 0, held=rng.sample(["a", "b"], rng.randrange(2)))
            moves = random_moves(rng, self.objects, 7)
            signature = rng.choice(known)
            wrong = allowed(signature, setting, moves)
            self.assertEqual(first_wrong(signature, setting, moves), wrong)
            ends = bool(moves) and moves[-1][0] == "leave"
            self.assertIs(is_answer(signature, setting, moves), wrong is None and ends)
            self.check_used(signature, setting, moves)
            good += wrong is None
        self.assertGreater(good, 500)

    def check_used(self, signature, setting, moves):
        """[9]: allowed exactly if allowed with the fullest one, with no more marks used."""
        giving = signature.is_giving
        fullest = self.giving if giving else self.full
        wrong = allowed(fullest, setting, moves)
        if wrong is not None:
            self.assertEqual(error_of(used_marks, setting, moves, giving=giving), ("BadMove", wrong))
            self.assertIsNotNone(first_wrong(signature, setting, moves))
            return
        used = used_marks(setting, moves, giving=giving)
        self.assertEqual(list(used), [mark for mark in fullest if mark in used])
        self.assertEqual(first_wrong(signature, setting, moves) is None, set(used) <= set(signature))


class UsedTest(unittest.TestCase):
    def test_used_marks(self):
        setting = Setting(HALL, [("box", False), ("bag", True)], 0)
        moves = [WANT_B, TAKE, WANT_A, TAKE, ("change", 1, "size", 1), ("change", 0, "n", 1), BACK, BACK, LEAVE]
        self.assertEqual(used_marks(setting, moves), (
            ("takes", "a"), ("takes", "b"), ("under", "b", "a"), ("writes", "box", "n"), ("writes", "bag", "size")))
        self.assertEqual(used_marks(setting, []), ())
        self.assertEqual(used_marks(setting, [WANT_A, TAKE, ("leave", "a")], giving=True), (
            ("takes", "a"), ("gives", "a")))
        self.assertEqual(error_of(used_marks, setting, [WANT_A, TAKE, ("leave", "a")]), ("BadMove", 2))
        for value in ODD_VALUES:
            self.assertEqual(error_of(used_marks, setting, [WANT_A, value]), ("BadMove", 1))
        bare = Setting(Hall([], ("k", None, "n")), [])
        self.assertEqual(error_of(used_marks, bare, [None], giving=True), ("BadPart", "needs"))

    def test_least_signature(self):
        one = (Setting(HALL, [("box", False)], 0), [WANT_A, TAKE, ("change", 0, "n", 1)])
        two = (Setting(HALL, [("box", True), ("bag", True)], 0, held=["b"]), (("change", 1, "size", 5), LEAVE))
        least = least_signature(HALL, ["box"], [one, two])
        self.assertEqual(least, Signature(HALL, "box", marks=[
            ("takes", "a"), ("writes", "box", "n"), ("writes", "bag", "size")]))
        self.assertEqual(least_signature(HALL, (), []), Signature(HALL))
        self.assertEqual(error_of(least_signature, HALL, ["bag"], [one]), ("Unlike",))
        self.assertEqual(error_of(least_signature, SMALL, ["box"], [one]), ("Unlike",))
        self.assertEqual(error_of(least_signature, HALL, ["box"], [one, (two[0], [LEAVE, LEAVE])]), ("BadMove", 1))
        bad = (Setting(HALL, []), [None])
        self.assertEqual(error_of(least_signature, HALL, ["box"], [one, bad]), ("Unlike",))
        self.assertEqual(error_of(least_signature, HALL, ["box"], [(one[0], [BACK]), bad]), ("BadMove", 0))
        self.assertEqual(error_of(least_signature, HALL, ["cup"], [one]), ("Unlike",))
        for places, rule in [([None], "form"), (["x", "y", "z", "u"], "many"), (["cup"], "unknown")]:
            self.assertEqual(error_of(least_signature, HALL, places, []), ("BadPart", rule))
            self.assertEqual(error_of(least_signature, HALL, places, [], giving=True), ("BadPart", rule))

    def test_least_giving_signature(self):
        setting = Setting(HALL, [])
        give = [WANT_B, TAKE, ("leave", "b")]
        least = least_signature(HALL, (), [(setting, [WANT_A]), (setting, give)], giving=True)
        self.assertEqual(least.marks, (("takes", "a"), ("takes", "b"), ("gives", "b")))
        self.assertEqual(error_of(least_signature, HALL, (), [(setting, [WANT_A])], giving=True), ("Unlike",))
        self.assertEqual(error_of(least_signature, HALL, (), [], giving=True), ("Unlike",))
        bare = Hall([], ("k", None, "n"))
        self.assertEqual(error_of(least_signature, bare, (), [(Setting(bare, []), [])], giving=True),
                         ("BadPart", "needs"))
        self.assertEqual(error_of(least_signature, bare, (), [], giving=True), ("Unlike",))

    def test_least_of_random_cases(self):
        rng = random.Random(5)
        objects = [("box", False), ("box", True), ("bag", True)]
        fullest = Signature.fullest(HALL, "box")
        for _ in range(150):
            cases = []
            while len(cases) < rng.randint(0, 3):
                setting = Setting(HALL, objects, 0, held=rng.sample(["a", "b"], rng.randrange(2)))
                moves = random_moves(rng, objects, 5)
                if first_wrong(fullest, setting, moves) is None:
                    cases.append((setting, moves))
            least = least_signature(HALL, ("box",), cases)
            for setting, moves in cases:
                self.assertIsNone(first_wrong(least, setting, moves))
            for mark in least:
                less = least - mark
                self.assertTrue(any(first_wrong(less, *case) is not None for case in cases))


class StackTest(unittest.TestCase):
    def test_own_stacks_and_wishes(self):
        for places in [(), ("box",)]:
            for signature in signatures(places):
                want = []
                for size in range(3):
                    for stack in itertools.permutations("ab", size):
                        taken = all(("takes", lock) in signature for lock in stack)
                        if taken and all(("under",) + pair in signature for pair in itertools.combinations(stack, 2)):
                            want.append(stack)
                self.assertEqual(own_stacks(signature), tuple(want))
                self.assertEqual(wishes(signature), tuple((stack[:-1], stack[-1]) for stack in want if stack))

    def test_order_with_more_locks(self):
        hall = Hall(["z", "y", "x", "w"], ("k", None, "n"))
        full = Signature.fullest(hall)
        stacks = own_stacks(full)
        self.assertEqual(len(stacks), 1 + 4 + 12 + 24 + 24)
        keys = [(len(stack), [hall.locks.index(lock) for lock in stack]) for stack in stacks]
        self.assertEqual(keys, sorted(keys))
        self.assertEqual(wishes(full)[:5], (((), "z"), ((), "y"), ((), "x"), ((), "w"), (("z",), "y")))
        self.assertEqual((own_stacks(Signature(hall)), wishes(Signature(hall))), (((),), ()))
        # Only the under marks of pairs count, not those of a chain.
        chain = Signature(hall, marks=[("takes", lock) for lock in "zyx"] + [("under", "z", "y"), ("under", "y", "x")])
        self.assertEqual(own_stacks(chain), ((), ("z",), ("y",), ("x",), ("z", "y"), ("y", "x")))


class PartingTest(unittest.TestCase):
    def test_all_pairs(self):
        for places in [(), ("box",)]:
            known = signatures(places)
            for one in known:
                for other in known:
                    self.check(one, other)

    def check(self, one, other):
        if not one.alike(other):
            self.assertEqual(error_of(parting, one, other), ("Unlike",))
            return
        found = parting(one, other)
        if one.within(other):
            self.assertIsNone(found)
            return
        setting, moves = found
        mark = [mark for mark in one if mark not in other][0]
        self.assertEqual(setting.places, one.places)
        self.assertEqual(setting.objects, tuple((kind, False) for kind in one.places) + (("box", True),))
        self.assertEqual((setting.passed, setting.held), (tuple(range(len(one.places))), ()))
        self.assertIsNone(first_wrong(one, setting, moves))
        if mark[0] == "shares":
            self.assertTrue(is_answer(one, setting, moves) and is_answer(other, setting, moves) or one.is_giving)
        else:
            self.assertEqual(first_wrong(other, setting, moves), len(moves) - 1)

    def parted(self, first, less, hall=HALL):
        first = Signature.read(hall, first)
        setting, moves = parting(first, Signature.read(hall, less))
        return setting, moves

    def test_moves(self):
        self.assertEqual(self.parted(": +a +b a>b", ": +a")[1], (WANT_B,))
        self.assertEqual(self.parted(": +a +b b>a", ": +a +b")[1], (WANT_B, TAKE, WANT_A))
        self.assertEqual(self.parted(": +a +b =a =b", ": +a +b =a")[1], (WANT_B, TAKE, ("leave", "b")))
        setting, moves = self.parted("bag box box : box.size box.n", "bag box box : box.size")
        self.assertEqual(moves, (("change", 1, "n", 1),))
        self.assertEqual(setting.objects, (
            ("bag", False), ("box", False), ("box", False), ("box", True), ("bag", True)))
        self.assertEqual(setting.passed, (0, 1, 2))
        self.assertEqual(self.parted(": +a box.n", ": +a")[1], (WANT_A, TAKE, ("change", 0, "n", 1)))
        self.assertEqual(self.parted("box : +a bag.size", "box : +a")[1], (("change", 2, "size", 1),))
        self.assertEqual(self.parted("box* : +a", "box : +a")[1], (LEAVE,))
        self.assertEqual(self.parted("box* : +a +b =b", "box : +a +b =b")[1], (WANT_B, TAKE, ("leave", "b")))
        self.assertEqual(self.parted("box* : +b", "box : +a")[1], (WANT_B,))

    def test_changed_signatures_of_a_big_hall(self):
        rng = random.Random(11)
        hall = Hall(["a", "b", "c"], ("k", "a", "f", "g"), ("m", None, "f"), ("o", "c", "f"))
        for _ in range(400):
            places = [rng.choice(hall.kinds) for _ in range(rng.randrange(4))]
            giving = rng.random() < 0.5
            one = other = Signature.fullest(hall, *places, giving=giving)
            for _ in range(rng.randint(1, 6)):
                mark = rng.choice([mark for mark in one if not giving or mark[0] in ("under", "shares", "writes")])
                one, other = one - mark if rng.random() < 0.5 else one, other - mark if mark in other else other
            found = parting(one, other)
            self.assertEqual(found is None, one.within(other))
            if found is not None:
                wrong = first_wrong(other, *found)
                self.assertIsNone(first_wrong(one, *found))
                missing = [mark for mark in one if mark not in other][0]
                self.assertEqual(wrong, None if missing[0] == "shares" else len(found[1]) - 1)


if __name__ == "__main__":
    unittest.main()
