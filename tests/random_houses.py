"""Random houses, the same ones for the same seed."""

import random

from handsroom.errors import HandsError
from handsroom.houses import House
from handsroom.kinds import Hall
from handsroom.routines import Routine
from handsroom.rows import Row
from handsroom.signatures import Signature, all_marks, needed_marks


def random_signature(rng, hall, places, many=0.4):
    """A signature with some of the marks that it can have."""
    marks = [mark for mark in all_marks(hall, places) if rng.random() < many]
    if rng.random() < 0.5:
        marks = [mark for mark in marks if mark[0] != "gives"]
    marks += [need for mark in marks for need in needed_marks(hall, places, mark)]
    return Signature(hall, *places, marks=marks)


def random_hall(rng, locks=3, kinds=2):
    names = ["a", "b", "c", "d"][:rng.randint(1, locks)]
    rows = []
    for kind in ["box", "bag", "cup"][:rng.randint(1, kinds)]:
        rows.append((kind, rng.choice([None] + names)) + ("f", "g")[:rng.randint(1, 2)])
    return Hall(names, *rows)


WORDS = ("take", "take", "call", "call", "skip", "make", "copy", "fetch", "read", "keep", "write", "put")
BUSY_WORDS = ("take", "call", "call", "make", "copy", "fetch", "read", "read", "keep", "keep", "write", "write", "write",
              "put")
SHARE_WORDS = ("make", "make", "put", "put", "fetch", "fetch", "copy", "call", "read", "keep", "write", "take")
TAIL_WORDS = ("take", "take", "make", "make", "skip", "skip", "copy", "put", "read", "write", "keep", "call")
GUARD_WORDS = ("take", "take", "take", "take", "call", "call", "skip")


class Writer:
    """Writes random rows of one routine."""

    def __init__(self, rng, hall, bodies, names, most, words=WORDS, named=0.5):
        self.words = words
        self.named = named
        self.rng = rng
        self.hall = hall
        self.bodies = bodies
        self.names = names
        self.left = most
        self.guards = 0

    def alike(self, name):
        kind = dict(self.names)[name]
        return [other for other, known in self.names if known == kind]

    def deed(self):
        rng = self.rng
        word = rng.choice(self.words if self.names else ["take", "call", "skip"])
        if word == "take":
            return self.guarded(("take", rng.choice(self.hall.locks)))
        if word == "call" and self.bodies:
            return self.call()
        if word in ("call", "skip"):
            return ("skip",)
        x = rng.choice([name for name, _ in self.names])
        if word in ("make", "put"):
            return (word, x)
        if word == "copy":
            return ("copy", x, rng.choice(self.alike(x)))
        if word == "fetch":
            others = self.alike(x)
            rng.shuffle(others)
            return ("fetch", x) + tuple(others[:rng.randint(0, len(others))])
        return (word, x, rng.choice(self.hall.fields_of(dict(self.names)[x])))

    def guarded(self, deed):
        if self.rng.random() < 1 - self.named:
            return deed
        self.guards += 1
        return deed + ("as", f"g{self.guards}")

    def call(self):
        body, signature = self.rng.choice(self.bodies)
        passed = []
        for place in signature.places:
            fitting = [name for name, kind in self.names if kind == place]
            if not fitting:
                return ("skip",)
            passed.append(self.rng.choice(fitting))
        deed = ("call", body, tuple(passed))
        return self.guarded(deed) if signature.is_giving else deed

    def rows(self, depth):
        """Rows for one part; the guard names made directly in it may be dropped in it."""
        found, named = [], []
        while self.left > 0 and self.rng.random() < 0.85:
            self.left -= 1
            word = self.rng.choice(["do", "do", "do", "with", "either", "repeat", "block", "drop"])
            if word == "drop":
                if named:
                    found.append(Row("drop", guard=self.rng.choice(named)))
                continue
            deeds = [self.deed() for _ in range(self.rng.randint(1, 2))]
            if word == "do" or depth == 3:
                found.append(Row("do", *deeds))
                named += found[-1].guards
                continue
            found.append(Row(word, *deeds) if word == "with" else Row(word))
            named += found[-1].guards
            found += self.rows(depth + 1)
            if word == "either" and self.rng.random() < 0.7:
                found += [Row("or")] + self.rows(depth + 1)
            found.append(Row("close"))
        if depth == 0 and named and self.rng.random() < 0.3:
            found.append(Row("give", guard=self.rng.choice(named)))
        return found


def random_house(seed, *, rows=6, names=3, routines=1, words=WORDS, named=0.5):
    """A random house; rows is about how many rows a routine has, words those of its deeds."""
    rng = random.Random(seed)
    while True:
        hall = random_hall(rng)
        bodies = []
        for body in ["p", "q"][:rng.randint(0, 2)]:
            places = [rng.choice(hall.kinds) for _ in range(rng.randint(0, 2))]
            bodies.append((body, random_signature(rng, hall, places)))
        written = []
        for name in ["r", "s", "t"][:routines]:
            pairs = [(x, rng.choice(hall.kinds)) for x in ["x", "y", "z", "w"][:rng.randint(0, names)]]
            writer = Writer(rng, hall, bodies, pairs, rows, words, named)
            try:
                written.append(Routine(name, pairs, writer.rows(0)))
            except HandsError:
                break
        if len(written) == routines:
            return House(hall, bodies, written)


def busy_house(seed, *, rows=4, names=2, routines=2, words=BUSY_WORDS, named=0.5):
    """A random house of few sorts in which many hands read, keep and write the same numbers."""
    rng = random.Random(seed)
    while True:
        locks = ["a", "b"][:rng.randint(1, 2)]
        kinds = [("box", rng.choice([None, "a", "a"])) + ("f", "g")[:rng.choice((1, 1, 2))]]
        if rng.random() < 0.2:
            kinds.append(("bag", None, "f"))
        hall = Hall(locks, *kinds)
        bodies = []
        for body in ["p", "q"][:rng.randint(0, 2)]:
            places = ["box"] * rng.randint(0, 1)
            bodies.append((body, random_signature(rng, hall, places)))
        written = []
        for name in ["r", "s", "t"][:routines]:
            pairs = [(x, rng.choice([hall.kinds[0], hall.kinds[0], hall.kinds[-1]]))
                     for x in ["x", "y", "z"][:rng.randint(1, names)]]
            try:
                written.append(Routine(name, pairs, Writer(rng, hall, bodies, pairs, rows, words, named).rows(0)))
            except HandsError:
                break
        if len(written) == routines:
            return House(hall, bodies, written)


def lock_house(seed, *, rows=4, locks=3, routines=2):
    """A random house whose hands take many locks, most of them by guards without a name."""
    rng = random.Random(seed)
    while True:
        hall = Hall(["a", "b", "c", "d"][:rng.randint(2, locks)], ("box", None, "f"))
        bodies = [(body, random_signature(rng, hall, [], 0.5)) for body in ["p", "q"][:rng.randint(1, 2)]]
        written = []
        for name in ["r", "s", "t"][:routines]:
            writer = Writer(rng, hall, bodies, [], rows, ("take", "take", "take", "call", "call", "skip"), 0.2)
            try:
                written.append(Routine(name, [], [Row("with", ("take", rng.choice(hall.locks)))] + writer.rows(1)
                                       + [Row("close")] + (writer.rows(1) if rng.random() < 0.3 else [])))
            except HandsError:
                break
        if len(written) == routines:
            return House(hall, bodies, written)


def nested_house(seed, *, locks=3, routines=2):
    """A random house whose routines take different locks in one another, and call bodies there."""
    rng = random.Random(seed)
    hall = Hall(["a", "b", "c", "d"][:rng.randint(2, locks)], ("box", None, "f"))
    bodies = [(body, random_signature(rng, hall, [], 0.35)) for body in ["p", "q"]]
    written = []
    for name in ["r", "s", "t"][:routines]:
        left = list(hall.locks)
        rng.shuffle(left)
        rows, closing = [], []
        while left and rng.random() < 0.8:
            lock = left.pop()
            if rng.random() < 0.25:
                rows.append(Row("do", ("take", lock), ("skip",)))
            calls = [(body, signature) for body, signature in bodies if set(signature.takes) <= set(left)]
            if calls and rng.random() < 0.5:
                rows.append(Row("do", ("call", rng.choice(calls)[0], ())))
            deep = len(closing) == 4 or rng.random() < 0.3
            rows.append(Row("do", ("take", lock, "as", "g" + lock)) if deep else Row("with", ("take", lock)))
            if not deep:
                closing.append(Row("close"))
            if len(closing) < 4 and rng.random() < 0.2:
                rows += [Row("either")]
                closing.append(Row("close"))
        calls = [(body, signature) for body, signature in bodies if set(signature.takes) <= set(left)]
        if calls and rng.random() < 0.7:
            rows.append(Row("do", ("call", rng.choice(calls)[0], ())))
        written.append(Routine(name, [], rows + closing))
    return House(hall, bodies, written)


def careless_house(seed, *, routines=2):
    """A random house of one kind behind a lock, in which many guards end too early or too late."""
    rng = random.Random(seed)
    while True:
        hall = Hall(["a", "b"][:rng.randint(1, 2)], ("box", "a", "f"))
        bodies = [("p", Signature(hall, "box", marks=[("writes", "box", "f")])),
                  ("q", Signature(hall, marks=[("takes", "a"), ("gives", "a")]))]
        written = []
        for name in ["r", "s", "t"][:routines]:
            rows = []
            for _ in range(rng.randint(1, 4)):
                deeds = []
                for _ in range(rng.randint(1, 3)):
                    word = rng.choice(("take", "take", "read", "keep", "keep", "write", "body", "lend", "make", "skip"))
                    deeds.append({"take": ("take", rng.choice(("a",) * 3 + hall.locks)), "make": ("make", "x"),
                                  "write": ("write", "x", "f"), "body": ("call", "p", ("x",)),
                                  "lend": ("call", "q", ()), "skip": ("skip",)}.get(word, (word, "x", "f")))
                takes = [deed for deed in deeds if deed[:2] in (("take", "a"), ("call", "q"))]
                if len(takes) > 1 or rng.random() < 0.5 and any(deed[0] not in ("skip", "make") for deed in deeds):
                    deeds = [("take", "a")] + [deed for deed in deeds if deed not in takes]
                rows.append(Row("do", *deeds))
                if rng.random() < 0.2:
                    rows += [Row("with", *deeds), Row("do", rng.choice((("keep", "x", "f"), ("read", "x", "f")))), Row("close")]
                    rows.pop(-4)
                if rng.random() < 0.15:
                    rows += [Row(rng.choice(("either", "repeat"))), Row("do", ("keep", "x", "f")), Row("close")]
            try:
                written.append(Routine(name, [("x", "box")], rows))
            except HandsError:
                break
        if len(written) == routines:
            return House(hall, bodies, written)


def random_path(rng, spread, longest):
    """A random lone path of a routine."""
    from handsroom.lonetable import START, next_nodes
    path = [START]
    while len(path) <= longest:
        following = next_nodes(spread, path[-1])
        if not following:
            break
        path.append(rng.choice(following))
    return path
