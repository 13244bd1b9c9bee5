"""A second reading of [8] and [51] to [58]: what a machine refuses, changes, shows and notes as faults.

It is written apart from the program: it keeps everything in dicts and lists that it changes in place, and
uses of the package only spread forms and signatures.
"""

import copy

from handsroom.spreading import Spread

PLACES = {"start": 3, "go": 3, "enter": 1, "want": 2, "take": 1, "back": 1, "change": 4, "leave": 3}


def whole(value):
    return type(value) is int


class Floor:
    def __init__(self, house, firsts):
        self.house = house
        self.fields = {row[0]: row[2:] for row in house.hall.descriptions}
        self.lock_of = {row[0]: row[1] for row in house.hall.descriptions}
        self.spreads = {routine.name: Spread(house, routine.name) for routine in house.routines}
        self.kinds = {routine.name: dict(routine.names) for routine in house.routines}
        self.objects = [{"kind": kind, "owner": None, "n": dict(zip(self.fields[kind], numbers))}
                        for kind, numbers in firsts]
        self.hands = []
        self.turns, self.shows, self.faults = [], [], []

    def copy(self):
        twin = Floor(self.house, [])
        for name in ("objects", "hands", "turns", "shows", "faults"):
            setattr(twin, name, copy.deepcopy(getattr(self, name)))
        return twin

    # What there is to ask.

    def step(self, hand):
        one = self.hands[hand]
        return None if one["point"] is None else self.spreads[one["routine"]].points[one["point"]].step

    def nexts(self, hand):
        one = self.hands[hand]
        return () if one["point"] is None else self.spreads[one["routine"]].points[one["point"]].nexts

    def held(self, hand):
        one = self.hands[hand]
        return [lock for _, lock in one["guards"]] + list(one["stack"] or [])

    def holder(self, lock):
        found = [hand for hand in range(len(self.hands)) if lock in self.held(hand)]
        assert len(found) < 2 and all(self.held(hand).count(lock) == 1 for hand in found)
        return found[0] if found else None

    def wants(self, hand):
        step = self.step(hand)
        return step[1] if step and step[0] == "take" else self.hands[hand]["wanted"]

    def waits_for(self, hand):
        return None if self.wants(hand) is None else self.holder(self.wants(hand))

    def ring(self):
        waits = {hand: self.waits_for(hand) for hand in range(len(self.hands))}
        for hand in waits:
            seen, at = [], hand
            while at is not None and at not in seen:
                seen.append(at)
                at = waits[at]
            if at == hand:
                return tuple(seen)
        return ()

    def marks(self, hand):
        return self.house.signature_of(self.step(hand)[1]).marks

    def sheet(self, hand, name):
        one = self.hands[hand]
        return tuple(one["papers"][one["paper"][name]].get(f) for f in self.fields[self.kinds[one["routine"]][name]])

    def rows(self):
        return tuple((one["kind"], tuple(one["n"].values()), one["owner"]) for one in self.objects)

    # What is refused.

    def is_shared(self, number, kind):
        if not whole(number) or not 0 <= number < len(self.objects):
            return False
        return self.objects[number]["kind"] == kind and self.objects[number]["owner"] is None

    def refusal(self, hand, move):
        """The error that a turn raises, as the name of its class and its fields; None if it raises none."""
        if move[0] == "start":
            if not whole(hand) or hand != len(self.hands):
                return ("NoHand", hand)
            rule = self.start_rule(move)
            return ("WrongMove", move, rule) if rule else None
        if not whole(hand) or not 0 <= hand < len(self.hands):
            return ("NoHand", hand)
        rule = self.move_rule(hand, move)
        if rule:
            return ("WrongMove", move, rule)
        if self.wants(hand) is not None and self.holder(self.wants(hand)) is not None:
            return ("MustWait", self.wants(hand), self.holder(self.wants(hand)))
        return None

    def start_rule(self, move):
        if len(move) != 3:
            return "word"
        if type(move[1]) is not str or move[1] not in self.kinds:
            return "routine"
        kinds = list(self.kinds[move[1]].values())
        if type(move[2]) not in (list, tuple) or len(move[2]) != len(kinds):
            return "objects"
        return None if all(self.is_shared(number, kind) for number, kind in zip(move[2], kinds)) else "objects"

    def move_rule(self, hand, move):
        one, step = self.hands[hand], self.step(hand)
        if one["point"] is None:
            words = ()
        elif one["stack"] is not None:
            words = ("want", "take", "back", "change", "leave")
        else:
            words = ("enter",) if step[0] == "call" else ("go",)
        if move[0] not in words or len(move) != PLACES[move[0]]:
            return "word"
        if one["stack"] is not None and not self.inside(hand, move):
            return "inside"
        if move[0] in ("go", "leave"):
            nexts = self.nexts(hand)
            if move[2] is not None if not nexts else not (whole(move[2]) and move[2] in nexts):
                return "next"
        return "answer" if move[0] == "go" and not self.answers(hand, move[1]) else None

    def answers(self, hand, answer):
        step, leads = self.step(hand), self.hands[hand]["leads"]
        if step[0] == "fetch":
            kind = self.kinds[self.hands[hand]["routine"]][step[1]]
            return self.is_shared(answer, kind) and answer not in [leads[name] for name in step[2:]]
        return whole(answer) if step[0] == "write" else answer is None

    def inside(self, hand, move):
        one, marks = self.hands[hand], self.marks(hand)
        stack = one["stack"]
        if move[0] == "take":
            return one["wanted"] is not None
        if one["wanted"] is not None:
            return False
        if move[0] == "want":
            return type(move[1]) is str and ("takes", move[1]) in marks and all(
                ("under", lock, move[1]) in marks for lock in stack)
        if move[0] == "back":
            return len(stack) > 0
        if move[0] == "leave":
            gives = [mark[1] for mark in marks if mark[0] == "gives"]
            return stack == [move[1]] and move[1] in gives if gives else move[1] is None and stack == []
        number, field, worth = move[1:]
        if not whole(number) or not 0 <= number < len(self.objects) or not whole(worth):
            return False
        thing = self.objects[number]
        if type(field) is not str or ("writes", thing["kind"], field) not in marks:
            return False
        lock = self.lock_of[thing["kind"]]
        passed = [one["leads"][name] for name in self.step(hand)[2]]
        return number in passed or thing["owner"] is None and (lock is None or lock in stack)

    # What is changed.

    def make(self, hand, move):
        if move[0] == "start":
            names = list(self.kinds[move[1]])
            self.hands.append({
                "routine": move[1], "point": 0, "guards": [], "stack": None, "wanted": None,
                "leads": dict(zip(names, move[2])), "paper": {name: k for k, name in enumerate(names)},
                "papers": {k: {} for k in range(len(names))}})
            self.turns.append((hand, ("start", move[1], tuple(move[2]))))
            return
        one, step = self.hands[hand], self.step(hand)
        if move[0] in ("go", "enter"):
            self.note(hand, step)
        if move[0] == "go":
            self.go(hand, step, move[1])
            one["point"] = move[2]
        elif move[0] == "enter":
            one["stack"] = []
        elif move[0] == "want":
            one["wanted"] = move[1]
        elif move[0] == "take":
            one["stack"].append(one["wanted"])
            one["wanted"] = None
        elif move[0] == "back":
            one["stack"].pop()
        elif move[0] == "change":
            self.objects[move[1]]["n"][move[2]] = move[3]
        else:
            for mark in self.marks(hand):
                if mark[0] == "shares":
                    self.objects[one["leads"][step[2][mark[1]]]]["owner"] = None
            one["guards"] += [] if move[1] is None else [(step[3], move[1])]
            one["stack"], one["point"] = None, move[2]
        self.turns.append((hand, move))

    def note(self, hand, step):
        one = self.hands[hand]
        kinds = self.kinds[one["routine"]]
        touched = [step[1]] if step[0] in ("read", "write") else []
        if step[0] == "call":
            written = [mark[1] for mark in self.marks(hand) if mark[0] == "writes"]
            touched = [name for name in step[2] if kinds[name] in written]
        word = None
        for name in touched:
            lock = self.lock_of[kinds[name]]
            if lock is not None and lock not in self.held(hand) and self.objects[one["leads"][name]]["owner"] is None:
                word = "bare"
        if step[0] in ("read", "keep"):
            fresh = self.objects[one["leads"][step[1]]]["n"][step[2]]
            shown = fresh if step[0] == "read" else one["papers"][one["paper"][step[1]]].get(step[2])
            self.shows.append((hand, shown))
            word = "stale" if step[0] == "keep" and shown != fresh else word
        if word:
            self.faults.append((word, len(self.turns), hand, one["point"]))

    def go(self, hand, step, answer):
        one = self.hands[hand]
        word, x = step[0], step[1] if len(step) > 1 else None
        if word in ("make", "fetch"):
            kind = self.kinds[one["routine"]][x]
            zeros = {field: 0 for field in self.fields[kind]}
            if word == "make":
                self.objects.append({"kind": kind, "owner": hand, "n": dict(zeros)})
            one["leads"][x] = len(self.objects) - 1 if word == "make" else answer
            one["paper"][x] = max(one["papers"]) + 1
            one["papers"][one["paper"][x]] = zeros if word == "make" else {}
        elif word == "copy":
            one["leads"][x], one["paper"][x] = one["leads"][step[2]], one["paper"][step[2]]
        elif word in ("read", "write"):
            numbers = self.objects[one["leads"][x]]["n"]
            if word == "write":
                numbers[step[2]] = answer
            one["papers"][one["paper"][x]][step[2]] = numbers[step[2]]
        elif word == "put":
            self.objects[one["leads"][x]]["owner"] = None
        elif word == "take":
            one["guards"].append((step[2], step[1]))
        elif word in ("drop", "stop"):
            one["guards"] = [guard for guard in one["guards"] if guard[0] != x]


class Mover:
    """Random moves, many of which can be made; the others break a rule in one part."""

    ODD = (None, True, -1, 0, 1, 7, "", "a", "x", "f", (), [], (0,), ["a"], 10 ** 40, 1.0, {})

    def __init__(self, rng, floor):
        self.rng = rng
        self.floor = floor

    def one_of(self, objects):
        return self.rng.choice(objects)

    def start(self):
        routine = self.rng.choice(self.floor.house.routines)
        objects = []
        for _, kind in routine.names:
            fitting = [at for at in range(len(self.floor.objects)) if self.floor.is_shared(at, kind)]
            objects.append(self.one_of(fitting))
        return ("start", routine.name, self.rng.choice((tuple, list))(objects))

    def go(self, hand):
        rng, step, nexts = self.rng, self.floor.step(hand), self.floor.nexts(hand)
        answer = rng.randint(-9, 9) if step[0] == "write" else None
        if step[0] == "fetch":
            fitting = [at for at in range(len(self.floor.objects)) if self.floor.answers(hand, at)]
            answer = self.one_of(fitting) if fitting else 0
        return ("go", answer, rng.choice(nexts) if nexts else None)

    def inside(self, hand):
        rng, floor = self.rng, self.floor
        following = floor.nexts(hand)[0]
        locks = floor.house.locks
        moves = [("take",), ("back",), ("leave", None, following)]
        moves += [("want", lock) for lock in locks] + [("leave", lock, following) for lock in locks]
        moves += [("change", at, field, rng.randint(1, 99)) for at, one in enumerate(floor.objects)
                  for field in one["n"]]
        good = [move for move in moves if floor.inside(hand, move)]
        return rng.choice(good if good and rng.random() < 0.9 else moves)

    def move(self, hand):
        if not 0 <= hand < len(self.floor.hands):
            return self.start()
        if self.floor.hands[hand]["point"] is None:
            return self.rng.choice((("go", None, None), ("enter",), self.start()))
        if self.floor.hands[hand]["stack"] is not None:
            return self.inside(hand)
        return ("enter",) if self.floor.step(hand)[0] == "call" else self.go(hand)

    def spoiled(self, move):
        """The move with another word, one part more or less, or an odd value in some of its parts."""
        rng = self.rng
        which = rng.randrange(6)
        if which == 0:
            return (rng.choice(list(PLACES) + ["", "skip", "read"]),) + move[1:]
        if which == 1:
            return move[:-1] if len(move) > 1 else move + (None,)
        if which == 2:
            return move + (rng.choice(self.ODD),)
        parts = list(move)
        for at in range(1, len(parts)):
            if rng.random() < 0.5:
                parts[at] = rng.choice(self.ODD)
                if move[0] == "start" and at == 2 and move[2] and rng.random() < 0.5:
                    parts[2] = list(move[2])
                    parts[2][rng.randrange(len(move[2]))] = rng.choice(self.ODD)
        return tuple(parts)

    def turn(self, wrong=0.2):
        rng = self.rng
        many = len(self.floor.hands)
        hand = many if many == 0 or many < 4 and rng.random() < 0.1 else rng.randrange(many)
        move = self.move(hand)
        if rng.random() < wrong:
            move = self.spoiled(move)
        if rng.random() < wrong / 4:
            hand = rng.choice((-1, many, many + 1, 10 ** 40, True, False, None, "0", 0.0))
        return hand, move


def random_firsts(rng, house, many=3):
    """First objects of all kinds, in any order, with small numbers."""
    firsts = [(kind, tuple(rng.randint(0, 3) for _ in house.fields_of(kind))) for kind in house.kinds for _ in range(many)]
    rng.shuffle(firsts)
    return firsts
