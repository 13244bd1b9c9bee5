"""Which rule of [55] a move breaks first."""

from handsroom.answers import Inside, Setting, can_make
from handsroom.plain import is_integer
from handsroom.records import routine_in

_PARTS = {"start": 3, "go": 3, "enter": 1, "want": 2, "take": 1, "back": 1, "change": 4, "leave": 3}
_INSIDE = ("want", "take", "back", "change", "leave")


def is_start(move):
    """True if the word of the move, any value, is start."""
    return isinstance(move, tuple) and len(move) > 0 and move[0] == "start"


def _has_parts(move):
    if not isinstance(move, tuple) or len(move) == 0 or not isinstance(move[0], str):
        return False
    return _PARTS.get(move[0], 0) == len(move)


def start_rule(house, heap, move):
    """The first rule that a start breaks, "" if none."""
    if not _has_parts(move):
        return "word"
    _, name, objects = move
    if not any([routine.name == name for routine in house.routines]):
        return "routine"
    kinds = [kind for _, kind in house.routine_of(name).names]
    if not isinstance(objects, (list, tuple)) or len(objects) != len(kinds):
        return "objects"
    fitting = [heap.is_shared_of(number, kinds[at]) for at, number in enumerate(objects)]
    return "" if all(fitting) else "objects"


def _fits_place(spread, hand, word):
    if hand.over:
        return False
    if hand.stack is not None:
        return word in _INSIDE
    return word == ("enter" if spread.points[hand.point].step[0] == "call" else "go")


def _body_makes(spread, heap, hand, move):
    """True if the body that a hand is in can make the move, which has the parts of its word."""
    step = spread.points[hand.point].step
    objects = [(kind, owner is None) for kind, _, owner in heap.object_rows]
    passed = [hand.leads_to(name) for name in step[2]]
    # Nothing is told to be held, as a take needs a wanted lock only: waiting is no rule.
    setting = Setting(spread.house.hall, objects, *passed)
    inside = Inside(hand.stack, hand.wanted, False)
    # A leave has its next point as a part that only a machine knows.
    told = move[:2] if move[0] == "leave" else move
    return can_make(spread.house.signature_of(step[1]), setting, inside, told)


def _leads_on(spread, hand, following):
    nexts = spread.points[hand.point].nexts
    if len(nexts) == 0:
        return following is None
    return is_integer(following) and following in nexts


def fetchable(spread, heap, hand):
    """The objects that can be the answer of the fetch at which a hand stands, ascending."""
    step = spread.points[hand.point].step
    barred = [hand.leads_to(name) for name in step[2:]]
    return tuple([number for number in heap.shared_of(routine_in(spread).kind_of(step[1])) if number not in barred])


def _is_allowed_answer(spread, heap, hand, answer):
    word = spread.points[hand.point].step[0]
    if word == "fetch":
        return is_integer(answer) and answer in fetchable(spread, heap, hand)
    return is_integer(answer) if word == "write" else answer is None


def move_rule(spread, heap, hand, move):
    """The first rule that a move other than a start breaks, "" if none."""
    if not _has_parts(move) or not _fits_place(spread, hand, move[0]):
        return "word"
    if hand.stack is not None and not _body_makes(spread, heap, hand, move):
        return "inside"
    if move[0] in ("go", "leave") and not _leads_on(spread, hand, move[2]):
        return "next"
    if move[0] == "go" and not _is_allowed_answer(spread, heap, hand, move[1]):
        return "answer"
    return ""
