"""[90]: routines that stand for a body, what they earn and their cases, against a second reading over all lone runs."""

import random
import unittest

from helpers import ODD_VALUES, TEXTS, THING, error_of
from lone_oracle import Wanderer
from random_houses import GUARD_WORDS, SHARE_WORDS, TAIL_WORDS, WORDS, busy_house, lock_house, nested_house, random_house
from run_oracle import levels, successors
from test_nesting import crossed_at
from handsroom.answers import Setting, first_wrong, least_signature, used_marks, wishes
from handsroom.cases import cases_of
from handsroom.earning import earned
from handsroom.errors import HandsError, NoSuch, NotFit, TooLarge
from handsroom.houses import House
from handsroom.lonetable import LoneTable
from handsroom.needs import requests_at
from handsroom.nesting import nests
from handsroom.records import first_record, record_after
from handsroom.signatures import Signature
from handsroom.spreading import Spread
from handsroom.tagging import TagTable

HEAD = "lock a\nlock b\nlock c\nkind box a f\nkind bag - n m\n"
BODIES = ("body hit box : box.f", "body spill : bag.n", "body tidy : +a +b a>b box.f", "body share bag* bag : bag.m",
          "body lend : +b +c b>c =b =c")


def house_of(*rows, names="x:box y:box u:bag v:bag"):
    """A house of one routine, with the bodies that it calls."""
    bodies = [line for line in BODIES if any("call " + line.split()[1] in row for row in rows)]
    return House.read(HEAD + "\n".join(bodies + [f"routine r {names}"] + list(rows) + ["done"]))


class Tags:
    """All pairs (state of a Wanderer, tags of the names) of the lone runs of a routine; a tag is a position or a word."""

    def __init__(self, house, name, arguments, most=6000):
        self.house, self.arguments = house, list(arguments)
        self.spread = Spread(house, name)
        self.world = Wanderer(self.spread, most)
        self.is_whole = self.world.is_whole
        self.nexts = {}
        if not self.is_whole:
            return
        names = self.world.names
        first = tuple(self.arguments.index(name) if name in self.arguments else "found" for name in names)
        self.firsts = [(self.world.settled((0, ()), leads, ()), first) for leads in self.world.starts()]
        pending = list(self.firsts)
        while pending:
            one = pending.pop()
            if one in self.nexts:
                continue
            state, tags = one
            step, after = self.world.step(state), list(tags)
            if step[0] in ("make", "fetch", "copy"):
                word = {"make": "made", "fetch": "found"}.get(step[0])
                after[names.index(step[1])] = word or tags[names.index(step[2])]
            self.nexts[one] = [(state, tuple(after)) for state in self.world.behind(state)]
            pending += self.nexts[one]
            if len(self.nexts) > most:
                self.is_whole = False
                return

    def step(self, one):
        return self.world.step(one[0])

    def tag(self, one, name):
        return one[1][self.world.names.index(name)]

    def own(self, one, name):
        return self.world.is_own(one[0], name)

    def marks(self, body):
        return self.house.signature_of(body).marks

    def bare(self, one):
        """The names whose touch is bare."""
        step = self.step(one)
        names = [step[1]] if step[0] in ("read", "write") else []
        if step[0] == "call":
            kinds = [mark[1] for mark in self.marks(step[1]) if mark[0] == "writes"]
            names = [name for name in step[2] if self.world.kinds[name] in kinds]
        held = self.world.held(one[0])
        locks = {name: self.house.guard_of(self.world.kinds[name]) for name in names}
        return [name for name in names if locks[name] and locks[name] not in held and not self.own(one, name)]

    def shared(self, one):
        step = self.step(one)
        names = [step[1]] if step[0] == "put" else []
        if step[0] == "call":
            names = [step[2][mark[1]] for mark in self.marks(step[1]) if mark[0] == "shares"]
        return [self.tag(one, name) for name in names if isinstance(self.tag(one, name), int)]

    def quiet_points(self):
        found = {at: point.step[0] in ("skip", "make", "copy", "put", "read", "write", "keep")
                 for at, point in enumerate(self.spread.points)}
        for state in self.world.states:
            step = self.world.step(state)
            if step[0] in ("read", "write", "keep") and not self.world.is_own(state, step[1]):
                found[state[0][0]] = False
        return found

    def rule(self):
        """The first rule that the routine breaks, None if it is fit."""
        if any(crossed_at(self.spread, node) for node in levels(self.spread)):
            return "nest"
        for node in levels(self.spread):
            if any(wanted in held for _, (held, wanted) in requests_at(self.spread, node)):
                return "self"
        if any(not isinstance(self.tag(one, name), int) for one in self.nexts for name in self.bare(one)):
            return "touch"
        quiet = self.quiet_points()
        seen, pending = set(), [after for one in self.nexts if self.shared(one) for after in self.nexts[one]]
        while pending:
            one = pending.pop()
            if one not in seen:
                seen.add(one)
                if self.step(one)[0] not in ("drop", "stop") and not quiet[one[0][0][0]]:
                    return "share"
                pending += self.nexts[one]
        for one in self.nexts:
            step = self.step(one)
            if step[0] == "stop" and step[1] and step[1] not in [tag for tag, _ in one[0][0][1]]:
                return "give"
        return None

    def earned(self):
        marks = set()
        for one in self.nexts:
            step, held = self.step(one), self.world.held(one[0])
            if step[0] == "take":
                marks |= {("takes", step[1])} | {("under", lock, step[1]) for lock in held}
            if step[0] == "write" and not self.own(one, step[1]):
                marks.add(("writes", self.world.kinds[step[1]], step[2]))
            if step[0] == "call":
                for mark in self.marks(step[1]):
                    if mark[0] == "takes":
                        marks |= {mark} | {("under", lock, mark[1]) for lock in held}
                    if mark[0] == "under":
                        marks.add(mark)
                    if mark[0] == "writes":
                        lock = self.house.guard_of(mark[1])
                        passed = [name for name in step[2] if self.world.kinds[name] == mark[1] and not self.own(one, name)]
                        if lock is None or passed or ("takes", lock) in self.marks(step[1]) and lock not in held:
                            marks.add(mark)
            marks |= {("shares", tag) for tag in self.shared(one)}
            if step[0] == "stop":
                marks |= {("gives", lock) for tag, lock in one[0][0][1] if tag == step[1]}
        places = [self.world.kinds[name] for name in self.arguments]
        return Signature(self.house.hall, *places, marks=list(marks))

    def setting(self):
        objects = [(self.world.kinds[name], False) for name in self.arguments] + [(kind, True) for kind in self.house.kinds]
        return Setting(self.house.hall, objects, *range(len(self.arguments)))

    def object_for(self, one, name):
        tag = self.tag(one, name)
        return tag if isinstance(tag, int) else len(self.arguments) + self.house.kinds.index(self.world.kinds[name])

    # What the hand does, as inside moves: a position is a pair (state, None) or, inside a call, (state, (stack, wanted)).

    def steps_from(self, position):
        """The pairs (inside move or None, position behind it)."""
        one, inside = position
        step, held = self.step(one), self.world.held(one[0])
        if inside is not None:
            return self.inside(one, step, held, *inside)
        if step[0] == "call":
            return [(None, (one, ((), None)))]
        if step[0] == "take":
            return [(("want", step[1]), (one, ("taking", step[1])))]
        if step[0] == "stop":
            given = [lock for tag, lock in one[0][0][1] if tag == step[1]]
            return [(("leave", given[0] if given else None), None)]
        move = None
        if step[0] == "drop" and step[1] in [tag for tag, _ in one[0][0][1]]:
            move = ("back",)
        if step[0] == "write" and not self.own(one, step[1]):
            move = ("change", self.object_for(one, step[1]), step[2])
        return [(move, (after, None)) for after in self.nexts[one]]

    def inside(self, one, step, held, stack, wanted):
        if stack == "taking":
            return [(("take",), (after, None)) for after in self.nexts[one]]
        if wanted is not None:
            return [] if wanted in held + stack else [(("take",), (one, (stack + (wanted,), None)))]
        marks, found = self.marks(step[1]), []
        for lock in self.house.locks:
            if ("takes", lock) in marks and all(("under", other, lock) in marks for other in stack):
                found.append((("want", lock), (one, (stack, lock))))
        if stack:
            found.append((("back",), (one, (stack[:-1], None))))
        for mark in marks:
            if mark[0] == "writes":
                lock = self.house.guard_of(mark[1])
                objects = [self.object_for(one, name) for name in step[2] if self.world.kinds[name] == mark[1]
                           and not self.own(one, name)]
                if lock is None or lock in stack:
                    objects.append(len(self.arguments) + self.house.kinds.index(mark[1]))
                found += [(("change", number, mark[2]), (one, (stack, None))) for number in objects]
        gives = [mark[1] for mark in marks if mark[0] == "gives"]
        for after in self.nexts[one]:
            more = [lock for _, lock in after[0][0][1][len(one[0][0][1]):]]
            if (gives and stack == tuple(more) and len(more) == 1) or (not gives and stack == ()):
                found.append((None, (after, None)))
        return found

    def can_do(self, moves):
        """True if the moves are a beginning of what the hand does along some lone path."""
        now = {(one, None) for one in self.firsts}
        for move in list(moves) + [None]:
            pending, closed = list(now), set(now)
            while pending:
                position = pending.pop()
                for told, after in self.steps_from(position) if position else []:
                    if told is None and after not in closed:
                        closed.add(after)
                        pending.append(after)
            if move is None:
                return bool(closed)
            want = move[:3] if move[0] == "change" else move
            now = {after for position in closed if position for told, after in self.steps_from(position) if told == want}
        return True

    def walk(self, rng, longest):
        """What the hand does along a random lone path, as inside moves."""
        position, moves = (rng.choice(self.firsts), None), []
        for _ in range(longest):
            steps = self.steps_from(position)
            if not steps:
                break
            move, position = rng.choice(steps)
            if move is not None:
                moves.append(move + (rng.randint(-3, 3),) if move[0] == "change" else move)
            if position is None:
                break
        return moves


class EarnCheck:
    def earned(self, *rows, arguments=("x",), **more):
        house = house_of(*rows, **more)
        tags = Tags(house, "r", arguments)
        want = tags.rule()
        try:
            found = earned(house, "r", list(arguments))
        except NotFit as error:
            self.assertEqual(error.rule, want)
            self.assertEqual(error_of(cases_of, house, "r", arguments), ("NotFit", want))
            return want
        self.assertIsNone(want)
        self.assertEqual(found, tags.earned())
        self.check_cases(house, "r", arguments, found, tags)
        return found.text()

    def check_cases(self, house, name, arguments, signature, tags):
        cases = cases_of(house, name, arguments)
        self.assertIsInstance(cases, tuple)
        shares = [mark for mark in signature.marks if mark[0] == "shares"]
        used = []
        for setting, moves in cases:
            self.assertEqual((type(setting), type(moves)), (Setting, tuple))
            want = tags.setting()
            self.assertEqual((setting.hall, setting.objects, setting.passed, setting.held),
                             (want.hall, want.objects, want.passed, ()))
            self.assertIsNone(first_wrong(signature, setting, moves))
            self.assertTrue(tags.can_do(moves), moves)
            used += used_marks(setting, moves, giving=signature.is_giving)
        self.assertEqual(set(used), set(signature.marks) - set(shares))
        if cases:
            least = least_signature(house.hall, signature.places, cases, giving=signature.is_giving)
            self.assertEqual(Signature(house.hall, *least.places, marks=least.marks + tuple(shares)), signature)
        return len(cases)


class EarnedTest(EarnCheck, unittest.TestCase):
    def test_takes(self):
        self.assertEqual(self.earned("do take a, read x f"), "box : +a")
        self.assertEqual(self.earned("with take b", "do take a as g, take c", "close"), "box : +a +b +c a>c b>a b>c")
        self.assertEqual(self.earned("do take b", "do take a", "do take b"), "box : +a +b")
        # The second drop finds no guard.
        self.assertEqual(self.earned("do take a as g", "drop g", "drop g", "do take b", "do write x f"), "box : +a +b box.f")

    def test_writes(self):
        self.assertEqual(self.earned("do write x f"), "box : box.f")
        self.assertEqual(self.earned("do make x, write x f"), "box :")
        self.assertEqual(self.earned("do take a, write y f"), "box : +a box.f")
        self.assertEqual(self.earned("do write u n, write v m", arguments=("u",)), "bag : bag.n bag.m")
        self.assertEqual(self.earned("either", "do make x", "close", "do write x f"), "box : box.f")
        self.assertEqual(self.earned("do copy y x, write y f"), "box : box.f")

    def test_no_arguments(self):
        self.assertEqual(self.earned("do take a, read x f", arguments=()), ": +a")
        self.assertEqual(self.earned(arguments=()), ":")
        self.assertEqual(self.earned("do read u n", arguments=("v", "u", "x")), "bag bag box :")

    def test_calls(self):
        self.assertEqual(self.earned("do call hit x"), "box : box.f")
        self.assertEqual(self.earned("do make x, call hit x"), "box :")
        self.assertEqual(self.earned("do call spill"), "box : bag.n")
        self.assertEqual(self.earned("with take c", "do call tidy", "close"), "box : +a +b +c a>b c>a c>b box.f")
        self.assertEqual(self.earned("do take a, call hit y"), "box : +a box.f")
        self.assertEqual(self.earned("do make y, call hit y"), "box :")

    def test_a_call_under_the_lock_of_the_kind(self):
        """The body cannot take a, so it changes only what is passed."""
        house = House.read(HEAD + "body tidy box : +b box.f\nroutine r x:box\nwith take a\ndo make x, call tidy x\nclose\n"
                           "done")
        self.assertEqual(earned(house, "r", []).text(), ": +a +b a>b")

    def test_guards_of_calls(self):
        self.assertEqual(self.earned("with call lend", "do take a", "close"), "box : +a +b +c b>a b>c c>a")
        self.assertEqual(self.earned("with take a", "do call lend", "close"), "box : +a +b +c a>b a>c b>c")

    def test_gives(self):
        self.assertEqual(self.earned("do take b", "do take a as g", "give g"), "box : +a +b =a")
        self.assertEqual(self.earned("do call lend as g", "give g"), "box : +b +c b>c =b =c")
        self.assertEqual(self.earned("do take a as g", "do write x f", "give g"), "box : +a box.f =a")

    def test_shares(self):
        self.assertEqual(self.earned("do put x"), "box* :")
        self.assertEqual(self.earned("do put y"), "box :")
        self.assertEqual(self.earned("do copy y x", "do take a, write y f", "do put y"), "box* : +a box.f")
        self.assertEqual(self.earned("do call share u v", arguments=("u", "v")), "bag* bag : bag.m")
        self.assertEqual(self.earned("do call share u v", arguments=("v", "u")), "bag bag* : bag.m")
        self.assertEqual(self.earned("do make u", "do call share u v", arguments=("u", "v")), "bag bag : bag.m")
        self.assertEqual(self.earned("do put x, put y", arguments=("y", "x")), "box* box* :")
        # Only on one of two ways.
        self.assertEqual(self.earned("either", "do put x", "close"), "box* :")

    def test_tags(self):
        self.assertEqual(self.earned("do copy y x, make x, put y"), "box* :")
        self.assertEqual(self.earned("do copy x y, put x"), "box :")
        self.assertEqual(self.earned("do fetch x, put x"), "box :")
        self.assertEqual(self.earned("do copy x x, put x"), "box* :")


class RulesTest(EarnCheck, unittest.TestCase):
    def test_nest(self):
        self.assertEqual(self.earned("do take a as g", "do take b as h", "drop g"), "nest")
        # Ahead of all others.
        self.assertEqual(self.earned("do take a as g", "do take b as h", "drop g", "do read y f, put x, read x f",
                                     "with take c", "do take c", "close"), "nest")

    def test_self(self):
        self.assertEqual(self.earned("with take a", "do take a, read y f", "close", "do read y f"), "self")
        self.assertEqual(self.earned("with take b", "do call tidy", "close", "do read y f"), "self")
        # Another routine of the house plays no part.
        text = house_of("do take a").text() + "\nroutine s\nwith take b\ndo take b\nclose\ndo take a as g\ndo take b as h\ndrop g\ndone"
        self.assertEqual(earned(House.read(text), "r", ["x"]).text(), "box : +a")

    def test_touch(self):
        self.assertEqual(self.earned("do read y f", "do put x", "do read x f"), "touch")
        self.assertEqual(self.earned("do call hit y"), "touch")
        self.assertEqual(self.earned("do fetch x", "do read x f"), "touch")
        self.assertEqual(self.earned("do make x, put x, read x f"), "touch")
        self.assertEqual(self.earned("do read y f", arguments=("x", "y")), "box box :")
        self.assertEqual(self.earned("do copy x y", "do read x f", arguments=("y",)), "box :")
        self.assertEqual(self.earned("either", "do copy x y", "close", "do read x f"), "touch")
        # A keep touches nothing, an open kind needs no lock.
        self.assertEqual(self.earned("do keep y f, read u n"), "box :")

    def test_share(self):
        for deed in ("read x f", "keep x f", "fetch y", "take b", "call lend", "call spill", "read u n"):
            self.assertEqual(self.earned("do put x", "do " + deed), "share", deed)
        for deed in ("skip", "make y, read y f, write y f, keep y f", "copy y x", "put y", "put x"):
            self.assertEqual(self.earned("do put x", "do " + deed), "box* :", deed)
        self.assertEqual(self.earned("do call share u v, read x f", arguments=("u", "x")), "share")
        # What is shared is no argument.
        self.assertEqual(self.earned("do put y", "do read x f"), "box :")
        # Behind it in a loop.
        self.assertEqual(self.earned("repeat", "do read x f", "do put x", "close"), "share")
        self.assertEqual(self.earned("repeat", "do put x", "close"), "box* :")
        self.assertEqual(self.earned("repeat", "do call share u v", "close", arguments=("u",)), "share")
        # Drops may come.
        self.assertEqual(self.earned("with take a", "do read x f, put x", "close", "do make y"), "box* : +a")
        # A point counts as quiet only if the name is own at each of its spots, also at those that are not behind.
        self.assertEqual(self.earned("either", "do make y, put x", "close", "do keep y f"), "share")

    def test_give(self):
        self.assertEqual(self.earned("do take a as g", "either", "drop g", "close", "give g"), "give")
        self.assertEqual(self.earned("do take a as g", "drop g", "give g"), "give")
        self.assertEqual(self.earned("do take a as g", "drop g", "do put x, read x f", "give g"), "share")

    def test_errors_in_order(self):
        house = house_of("do take a as g", "do take b as h", "drop g")
        for ask in (earned, cases_of):
            for value in list(ODD_VALUES) + [THING, "x", "a"]:
                self.assertEqual(error_of(ask, house, value, ["no"]), ("NoSuch", value))
            for value in list(ODD_VALUES) + [THING, "g", "r", "box"]:
                self.assertEqual(error_of(ask, house, "r", ["x", value, "y", "y", "no", "no"]), ("NoSuch", value))
            self.assertEqual(error_of(ask, house, "r", ["x", "u", "u", "no"]), ("NoSuch", "u"))
            self.assertEqual(error_of(ask, house, "r", ("x", "y", "u", "v", "x")), ("NoSuch", "x"))
            self.assertEqual(error_of(ask, house, "r", ("x", "y", "u", "v")), ("TooLarge", "places"))
            self.assertEqual(error_of(ask, house, "r", ("x", "y", "u")), ("NotFit", "nest"))
        for call, error in ((lambda: earned(house, "no", []), NoSuch), (lambda: earned(house, "r", ["x"]), NotFit),
                            (lambda: earned(house, "r", ["x", "y", "u", "v"]), TooLarge)):
            with self.assertRaises(error):
                call()

    def test_the_spots_of_a_table(self):
        """A node with a record and a tag for each name: also what is made and what is found differ."""
        house = house_of("either", "do make x, put x", "or", "do fetch x, skip", "close", "do skip")
        want = {"x": 2, "y": 2}
        for name, many in want.items():
            table = TagTable(Spread(house, "r"), [name])
            self.assertEqual(len([spot for spot in table if spot.node[0] == 5]), many)
        checked = 0
        for seed in range(60):
            house = busy_house(seed, rows=6, routines=1)
            spread = Spread(house, "r")
            names = [name for name, _ in house.routine_of("r").names]
            try:
                table = TagTable(spread, names[:1])
            except TooLarge:
                continue
            first = (0,) + ("found",) * (len(names) - 1)
            seen, pending = {}, [((0, ()), first_record(spread), first)]
            while pending:
                node, record, tags = pending.pop()
                if (node, record.key(), tags) in seen:
                    continue
                seen[(node, record.key(), tags)] = True
                step = spread.points[node[0]].step
                after = dict(zip(names, tags))
                if step[0] in ("make", "fetch", "copy"):
                    after[step[1]] = {"make": "made", "fetch": "found"}.get(step[0]) or after[step[2]]
                behind = record_after(spread, record, step)
                pending += [(one, behind, tuple(after.values())) for one in successors(spread, node)]
            self.assertEqual(len(table), len(seen))
            checked += 1
        self.assertGreater(checked, 50)

    def test_tables_that_are_too_large(self):
        """Tags make more spots than records alone."""
        rows = ["repeat"] + [row for deed in ("make x", "copy y x", "copy z y", "fetch w x", "copy x w")
                             for row in ("either", "do " + deed, "close")] + ["close"]
        house = House.read("\n".join(["lock a", "kind k - n", "routine r x:k y:k z:k w:k"] + rows + ["done"]))
        for arguments in (["x", "y", "z"], ["w"]):
            many = len(Tags(house, "r", arguments, 10 ** 6).nexts)
            self.assertGreater(many, 600)
            self.assertEqual(error_of(earned, house, "r", arguments), ("TooLarge", "spots"))
            self.assertEqual(error_of(cases_of, house, "r", arguments), ("TooLarge", "spots"))
        self.assertEqual(error_of(earned, house, "r", ["x", "y", "z", "w"]), ("TooLarge", "places"))
        # The bound comes ahead of the rules.
        house = House.read("\n".join(["lock a", "lock b", "kind k - n", "routine r x:k y:k z:k w:k", "do take a as g"] + rows
                                     + ["do take b as h", "drop g", "done"]))
        self.assertFalse(nests(house, "r"))
        self.assertEqual(error_of(earned, house, "r", ["x", "y", "z"]), ("TooLarge", "spots"))


class OracleTest(EarnCheck, unittest.TestCase):
    def houses(self):
        found = [House.read(text) for text in TEXTS[:3]]
        found += [random_house(seed, rows=5, words=words, routines=1) for seed in range(50)
                  for words in (WORDS, SHARE_WORDS, GUARD_WORDS, TAIL_WORDS)]
        found += [busy_house(seed, rows=4, routines=1) for seed in range(120)]
        found += [busy_house(seed, rows=5, routines=1, words=TAIL_WORDS) for seed in range(120)]
        return found + [nested_house(seed, routines=1) for seed in range(60)] + [lock_house(seed, rows=3) for seed in range(60)]

    def test_random_routines(self):
        rng, counts, listed = random.Random(90), {}, 0
        for house in self.houses():
            for routine in house.routines:
                names = [name for name, _ in routine.names]
                arguments = rng.sample(names, rng.randint(0, min(3, len(names))))
                tags = Tags(house, routine.name, arguments)
                if not tags.is_whole:
                    continue
                want = tags.rule()
                counts[want] = counts.get(want, 0) + 1
                try:
                    found = earned(house, routine.name, rng.choice((list, tuple))(arguments))
                except NotFit as error:
                    self.assertEqual(error.rule, want)
                    continue
                except TooLarge:
                    continue
                self.assertIsNone(want)
                self.assertEqual(found, tags.earned())
                listed += self.check_cases(house, routine.name, arguments, found, tags)
                self.check_walks(rng, found, tags)
        self.assertGreater(min(counts[rule] for rule in (None, "nest", "self", "touch", "share")), 2, counts)
        self.assertGreater(counts[None], 120)
        self.assertGreater(listed, 200)

    def check_walks(self, rng, signature, tags):
        """All that the hand does along lone paths is allowed with what it earns, and with nothing less."""
        setting = tags.setting()
        for _ in range(6):
            moves = tags.walk(rng, 40)
            self.assertIsNone(first_wrong(signature, setting, moves), moves)
            self.assertLessEqual(set(used_marks(setting, moves, giving=signature.is_giving)), set(signature.marks))

    def test_an_error_is_one_of_the_package(self):
        for house in self.houses()[:60]:
            try:
                earned(house, house.routines[0].name, [])
            except HandsError as error:
                self.assertIn(type(error), (NotFit, TooLarge))

    def test_wishes_of_bodies_are_wants(self):
        """Each request of a fit routine is a want of its earned signature."""
        checked = 0
        for seed in range(60):
            house = nested_house(seed, routines=1)
            try:
                signature = earned(house, "r", [])
            except NotFit:
                continue
            for node in LoneTable(Spread(house, "r")).nodes:
                for _, (held, wanted) in requests_at(Spread(house, "r"), node):
                    self.assertIn((set(held), wanted), [(set(stack), lock) for stack, lock in wishes(signature)])
                    checked += 1
        self.assertGreater(checked, 100)


if __name__ == "__main__":
    unittest.main()
