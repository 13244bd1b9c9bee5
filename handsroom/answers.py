"""What a body does inside a call, and how it tells signatures apart ([8] to [10])."""

from handsroom.errors import BadMove, BadPart, Unlike
from handsroom.plain import has_repeat, is_index, is_integer
from handsroom.signatures import Signature, fullest_signature
from handsroom.words import is_name

_MOST_PASSED = 3


def _is_object(value):
    if not isinstance(value, tuple) or len(value) != 2:
        return False
    return is_name(value[0]) and (value[1] is True or value[1] is False)


def _setting_rule(hall, objects, passed, held):
    if not all([is_integer(number) for number in passed]) or not all([_is_object(value) for value in objects]):
        return "form"
    if len(passed) > _MOST_PASSED:
        return "many"
    if has_repeat(held):
        return "twice"
    known = all([kind in hall.kinds for kind, _ in objects]) and all([lock in hall.locks for lock in held])
    return "" if known and all([is_index(number, len(objects)) for number in passed]) else "unknown"


class Setting:
    """What a body finds when it is called."""

    def __init__(self, hall, objects, *passed, held=()):
        rule = _setting_rule(hall, objects, passed, held)
        if rule:
            raise BadPart(rule)
        self.hall = hall
        self.objects = tuple(objects)
        self.passed = passed
        self.held = tuple(held)
        self.places = tuple([objects[number][0] for number in passed])


class Inside:
    """How far a body is in a call: its own stack, the wanted lock, and whether it has left."""

    def __init__(self, stack, wanted, left):
        self.stack = stack
        self.wanted = wanted
        self.left = left


def inside_at_first():
    """The state of a body that was just called."""
    return Inside((), None, False)


def can_want(signature, stack, lock):
    """True if the body can want the lock, any value, with this own stack."""
    return ("takes", lock) in signature and all([("under", held, lock) in signature for held in stack])


def can_change(signature, setting, stack, parts):
    """True if the body can make a change with these parts, any values."""
    number, field, worth = parts
    if not is_index(number, len(setting.objects)) or not is_integer(worth):
        return False
    kind, shared = setting.objects[number]
    if ("writes", kind, field) not in signature:
        return False
    guard = setting.hall.guard_of(kind)
    return number in setting.passed or shared and (guard is None or guard in stack)


def can_leave(signature, stack, lock):
    """True if the body can leave with the lock, any value."""
    if signature.is_giving:
        return ("gives", lock) in signature and stack == (lock,)
    return lock is None and stack == ()


def can_make(signature, setting, inside, move):
    """True if the body can make the move, any value, next."""
    if inside.left or not isinstance(move, tuple) or len(move) == 0:
        return False
    word, parts = move[0], move[1:]
    if word == "take":
        return len(parts) == 0 and inside.wanted is not None and inside.wanted not in setting.held
    if inside.wanted is not None:
        return False
    if word == "back":
        return len(parts) == 0 and len(inside.stack) > 0
    if word == "want":
        return len(parts) == 1 and can_want(signature, inside.stack, parts[0])
    if word == "change":
        return len(parts) == 3 and can_change(signature, setting, inside.stack, parts)
    return word == "leave" and len(parts) == 1 and can_leave(signature, inside.stack, parts[0])


def inside_behind(inside, move):
    """The state of the body behind a move that it can make."""
    if move[0] == "want":
        return Inside(inside.stack, move[1], False)
    if move[0] == "take":
        return Inside(inside.stack + (inside.wanted,), None, False)
    if move[0] == "back":
        return Inside(inside.stack[:-1], None, False)
    return Inside(inside.stack, None, move[0] == "leave")


def first_wrong(signature, setting, moves):
    """The index of the first move that cannot be made, None if the list is allowed."""
    if signature.hall != setting.hall or signature.places != setting.places:
        raise Unlike()
    inside = inside_at_first()
    for at, move in enumerate(moves):
        if not can_make(signature, setting, inside, move):
            return at
        inside = inside_behind(inside, move)
    return None


def is_answer(signature, setting, moves):
    """True if the list is allowed and ends with a leave."""
    if first_wrong(signature, setting, moves) is not None:
        return False
    return len(moves) > 0 and moves[-1][0] == "leave"


def _marks_of_move(setting, stack, move):
    if move[0] == "want":
        return [("takes", move[1])] + [("under", held, move[1]) for held in stack]
    if move[0] == "change":
        return [("writes", setting.objects[move[1]][0], move[2])]
    if move[0] == "leave" and move[1] is not None:
        return [("gives", move[1])]
    return []


def used_marks(setting, moves, *, giving=False):
    """The marks that an allowed list uses, in order ([9])."""
    places = setting.places
    fullest = fullest_signature(setting.hall, places, giving)
    position = first_wrong(fullest, setting, moves)
    if position is not None:
        raise BadMove(position)
    used = []
    inside = inside_at_first()
    for move in moves:
        used.extend(_marks_of_move(setting, inside.stack, move))
        inside = inside_behind(inside, move)
    return tuple([mark for mark in fullest.marks if mark in used])


def least_signature(hall, places, cases, *, giving=False):
    """The least signature with which the lists of all cases are allowed."""
    used = []
    for setting, moves in cases:
        if setting.hall != hall or setting.places != tuple(places):
            raise Unlike()
        used.extend(used_marks(setting, moves, giving=giving))
    least = Signature(hall, *places, marks=used)
    if giving and not least.is_giving:
        raise Unlike()
    return least


def own_stacks(signature):
    """The own stacks of a signature, the shorter ones first."""
    stacks = [()]
    at = 0
    while at < len(stacks):
        stack = stacks[at]
        stacks.extend([stack + (lock,) for lock in signature.hall.locks if can_want(signature, stack, lock)])
        at += 1
    return tuple(stacks)


def wishes(signature):
    """The pairs (own stack, lock that can be wanted with it), in order."""
    return tuple([(stack[:-1], stack[-1]) for stack in own_stacks(signature) if len(stack) > 0])


def _parting_change(hall, places, kind, field):
    if kind in places:
        return (("change", places.index(kind), field, 1),)
    change = ("change", len(places) + hall.kinds.index(kind), field, 1)
    guard = hall.guard_of(kind)
    return (change,) if guard is None else (("want", guard), ("take",), change)


def _giving_moves(lock):
    return (("want", lock), ("take",), ("leave", lock))


def _parting_moves(signature, mark):
    if mark[0] == "takes":
        return (("want", mark[1]),)
    if mark[0] == "under":
        return (("want", mark[1]), ("take",), ("want", mark[2]))
    if mark[0] == "writes":
        return _parting_change(signature.hall, signature.places, mark[1], mark[2])
    if mark[0] == "gives":
        return _giving_moves(mark[1])
    return _giving_moves(signature.gives[0]) if signature.is_giving else (("leave", None),)


def parting(first, second):
    """A setting and moves that show a mark of the first one that the second one lacks; None if it lacks none."""
    if not first.alike(second):
        raise Unlike()
    missing = [mark for mark in first.marks if mark not in second]
    if len(missing) == 0:
        return None
    hall = first.hall
    objects = [(kind, False) for kind in first.places] + [(kind, True) for kind in hall.kinds]
    passed = tuple(range(len(first.places)))
    return Setting(hall, objects, *passed), _parting_moves(first, missing[0])
