"""All error classes of the package ([0.4])."""


class HandsError(ValueError):
    """Each error that this package raises on purpose."""


class BadPart(HandsError):
    """A part of a value breaks a rule."""

    def __init__(self, rule):
        super().__init__(f"a part breaks the rule {rule!r}")
        self.rule = rule


class BadLine(HandsError):
    """A line of a text breaks a rule."""

    def __init__(self, line, rule):
        super().__init__(f"line {line!r} breaks the rule {rule!r}")
        self.line = line
        self.rule = rule


class NoSuch(HandsError):
    """There is nothing of this name."""

    def __init__(self, name):
        super().__init__(f"there is no {name!r}")
        self.name = name


class Unlike(HandsError):
    """Two things do not go together, or their result does not exist."""

    def __init__(self):
        super().__init__("these do not go together")


class BadPath(HandsError):
    """A path is wrong at a position."""

    def __init__(self, position):
        super().__init__(f"the path is wrong at position {position!r}")
        self.position = position


class BadMove(HandsError):
    """A move cannot be made."""

    def __init__(self, position):
        super().__init__(f"the move at position {position!r} cannot be made")
        self.position = position


class BadPlace(HandsError):
    """A value is not a place of the deeds that are asked for."""

    def __init__(self, place):
        super().__init__(f"not such a place: {place!r}")
        self.place = place


class BadRun(HandsError):
    """A run is wrong at a position, at -1 in its beginning."""

    def __init__(self, position):
        super().__init__(f"the run is wrong at position {position!r}")
        self.position = position


class BadPoint(HandsError):
    """A value is not the number of such a point."""

    def __init__(self, point):
        super().__init__(f"not such a point: {point!r}")
        self.point = point


class TooLarge(HandsError):
    """There are more of something than the document allows."""

    def __init__(self, what):
        super().__init__(f"too many {what}")
        self.what = what


class NoRow(HandsError):
    """A value is not the number of a row."""

    def __init__(self, row):
        super().__init__(f"there is no row {row!r}")
        self.row = row


class NoTag(HandsError):
    """No guard has this tag."""

    def __init__(self, tag):
        super().__init__(f"there is no tag {tag!r}")
        self.tag = tag


class NoNode(HandsError):
    """There is no such node."""

    def __init__(self, node):
        super().__init__(f"there is no node {node!r}")
        self.node = node


class NoFirst(HandsError):
    """A kind has no first object."""

    def __init__(self, kind):
        super().__init__(f"the kind {kind!r} has no first object")
        self.kind = kind


class WrongFirst(HandsError):
    """A first object has wrong numbers."""

    def __init__(self, position):
        super().__init__(f"the first object at position {position!r} is wrong")
        self.position = position


class NoHand(HandsError):
    """There is no such hand."""

    def __init__(self, hand):
        super().__init__(f"there is no hand {hand!r}")
        self.hand = hand


class WrongMove(HandsError):
    """A move of a hand breaks a rule."""

    def __init__(self, move, rule):
        super().__init__(f"the move {move!r} breaks the rule {rule!r}")
        self.move = move
        self.rule = rule


class MustWait(HandsError):
    """A hand must wait for a lock that another hand holds."""

    def __init__(self, lock, hand):
        super().__init__(f"the lock {lock!r} is held by the hand {hand!r}")
        self.lock = lock
        self.hand = hand


class Refused(HandsError):
    """A turn of a weaving is refused."""

    def __init__(self, position):
        super().__init__(f"the turn at position {position!r} is refused")
        self.position = position


class Unfinished(HandsError):
    """A machine cannot be finished."""

    def __init__(self, cycle, short):
        super().__init__(f"unfinished: ring {cycle!r}, short hands {short!r}")
        self.cycle = cycle
        self.short = short


class NoRequest(HandsError):
    """A table does not contain this request."""

    def __init__(self, request):
        super().__init__(f"there is no request {request!r}")
        self.request = request


class NoLockOrder(HandsError):
    """The locks have no order."""

    def __init__(self, cycle):
        super().__init__(f"the locks {cycle!r} are a lock cycle")
        self.cycle = cycle


class BadStand(HandsError):
    """A part of a stand is wrong."""

    def __init__(self, part):
        super().__init__(f"the stand has a wrong {part}")
        self.part = part


class Unnested(HandsError):
    """A routine does not nest."""

    def __init__(self, routine, nodes):
        super().__init__(f"the routine {routine!r} does not nest: {nodes!r}")
        self.routine = routine
        self.nodes = nodes


class Clash(HandsError):
    """Stands cannot be woven together."""

    def __init__(self, cycle):
        super().__init__(f"the stands clash over {cycle!r}")
        self.cycle = cycle


class NoState(HandsError):
    """A product does not contain this state."""

    def __init__(self, state):
        super().__init__(f"there is no state {state!r}")
        self.state = state


class NotFit(HandsError):
    """A routine cannot stand for a body."""

    def __init__(self, rule):
        super().__init__(f"the routine breaks the rule {rule!r}")
        self.rule = rule
