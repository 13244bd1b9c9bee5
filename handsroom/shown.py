"""The weaving along a way of a product ([75])."""

from handsroom.errors import BadPath
from handsroom.joining import Fresh
from handsroom.records import routine_in
from handsroom.scenes import given_lock
from handsroom.spreading import Spread


def _step_between(product, before, after):
    """The pair (hand, length) of a step between two states, None if there is none."""
    for hand, length, reached in product.steps_at(before):
        if reached == after:
            return hand, length
    return None


def _steps_along(product, way):
    """A tuple (hand, length, state before, state behind) for each step of a way."""
    if len(way) == 0 or way[0] != product.states[0]:
        raise BadPath(0)
    found = []
    for position in range(1, len(way)):
        before, after = way[position - 1], way[position]
        step = _step_between(product, before, after)
        if step is None:
            raise BadPath(position)
        found.append(step + (before, after))
    return found


class Weaver:
    """Makes the turns along a way, for a machine with so many first objects.

    kinds has the kinds of the first objects that the turns name, common the number of the common
    object, hands the hands of the product in the order of their starts.
    """

    def __init__(self, product, many):
        self.product = product
        self.spreads = (Spread(product.house, product.keeper), Spread(product.house, product.other))
        self.following = many
        self.kinds = []
        self.common = None
        self.hands = []
        self.has_entered = False
        self.fresh = Fresh()
        self.turns = []

    def follow(self, hand, length, before, after):
        """Makes the turns of one step of a way."""
        node, names = before[hand]
        reached, later = after[hand]
        if node is None:
            self._start(hand, later)
        elif length == 0:
            self._strike(node, names)
        elif self._step_at(hand, node)[0] == "call":
            self._leave(hand, node, reached)
        else:
            self._say(hand, [("go", self._answer(hand, node, later), reached[0])])
        if after[2] == "none":
            self.common = None

    def _step_at(self, hand, node):
        return self.spreads[hand].points[node[0]].step

    def _say(self, hand, moves):
        number = self.hands.index(hand)
        self.turns.extend([(number, move) for move in moves])

    def _object_for(self, kind, is_common):
        """The object to which a name is led: the common one, or a first object of its own."""
        if is_common and self.common is not None:
            return self.common
        self.kinds.append(kind)
        if is_common:
            self.common = len(self.kinds) - 1
        return len(self.kinds) - 1

    def _start(self, hand, later):
        self.hands.append(hand)
        routine = routine_in(self.spreads[hand])
        objects = []
        for name, kind in routine.names:
            objects.append(self._object_for(kind, name in later))
        self._say(hand, [("start", routine.name, tuple(objects))])

    def _answer(self, hand, node, later):
        step = self._step_at(hand, node)
        if step[0] == "fetch":
            return self._object_for(routine_in(self.spreads[hand]).kind_of(step[1]), step[1] in later)
        if step[0] == "make":
            if step[1] in later:
                self.common = self.following
            self.following += 1
        return self.fresh.one() if step[0] == "write" else None

    def _enter(self, hand):
        """Enters a call, unless the other hand is in it already: the keeper is never struck at."""
        if hand == 0 or not self.has_entered:
            self._say(hand, [("enter",)])
        self.has_entered = self.has_entered or hand == 1

    def _strike(self, node, names):
        guard = self.product.house.guard_of(self.product.kind)
        change = ("change", self.common, self.product.field, self.fresh.one())
        self._enter(1)
        passed = self._step_at(1, node)[2]
        if guard is None or any([name in names for name in passed]):
            self._say(1, [change])
        else:
            self._say(1, [("want", guard), ("take",), change, ("back",)])

    def _leave(self, hand, node, reached):
        lock = given_lock(node, reached)
        self._enter(hand)
        taking = [] if lock is None else [("want", lock), ("take",)]
        self._say(hand, taking + [("leave", lock, reached[0])])
        self.has_entered = self.has_entered and hand == 0


def _woven(product, steps, many):
    """The Weaver behind the steps of a way, for a machine with so many first objects."""
    weaver = Weaver(product, many)
    for hand, length, before, after in steps:
        weaver.follow(hand, length, before, after)
    return weaver


def weaving_along(product, way):
    """The pair (first objects, turns) of the weaving along a way."""
    steps = _steps_along(product, way)
    named = _woven(product, steps, 0).kinds
    kinds = named + [kind for kind in product.house.kinds if kind not in named]
    # What is made is numbered behind the first objects, so these are counted before.
    weaver = _woven(product, steps, len(kinds))
    firsts = [(kind, tuple([weaver.fresh.one() for _ in product.house.fields_of(kind)])) for kind in kinds]
    return tuple(firsts), tuple(weaver.turns)
