"""What a move shows, which fault it makes, and what it changes ([35], [54], [58])."""

from handsroom.records import routine_in, shared_names
from handsroom.touches import touched


def step_of(spread, hand):
    """The step of the point at which a hand stands."""
    return spread.points[hand.point].step


def shows_of(spread, heap, hand):
    """What the go of a hand shows: a tuple of one number or None, () if it shows nothing."""
    step = step_of(spread, hand)
    if step[0] == "read":
        return (heap.number_at(hand.leads_to(step[1]), step[2]),)
    if step[0] == "keep":
        return (hand.sheet_of(step[1])[heap.place_of(hand.leads_to(step[1]), step[2])],)
    return ()


def fault_of(spread, heap, hand):
    """The fault that the go or enter of a hand makes, "" if none."""
    step = step_of(spread, hand)
    for name in touched(spread, step):
        kind, _, owner = heap.object_rows[hand.leads_to(name)]
        guard = spread.house.guard_of(kind)
        if owner is None and guard is not None and guard not in hand.held:
            return "bare"
    if step[0] == "keep" and shows_of(spread, heap, hand)[0] != heap.number_at(hand.leads_to(step[1]), step[2]):
        return "stale"
    return ""


def _sheet(spread, name, worth):
    return tuple([worth for _ in spread.house.fields_of(routine_in(spread).kind_of(name))])


def _guards_behind(hand, step):
    if step[0] == "take":
        return hand.guards + ((step[2], step[1]),)
    if step[0] in ("drop", "stop"):
        return tuple([guard for guard in hand.guards if guard[0] != step[1]])
    return hand.guards


def _behind_step(spread, heap, number, hand, answer):
    """The pair (heap, hand) behind a step other than a call of the hand with this number."""
    step = step_of(spread, hand)
    word = step[0]
    if word == "make":
        made = heap.made(routine_in(spread).kind_of(step[1]), number)
        return made, hand.led(step[1], len(heap), _sheet(spread, step[1], 0))
    if word == "copy":
        return heap, hand.copied(step[1], step[2])
    if word == "fetch":
        return heap, hand.led(step[1], answer, _sheet(spread, step[1], None))
    if word == "put":
        return heap.sharing((hand.leads_to(step[1]),)), hand
    if word in ("read", "write"):
        led = hand.leads_to(step[1])
        changed = heap.written(led, step[2], answer) if word == "write" else heap
        return changed, hand.noted(step[1], heap.place_of(led, step[2]), changed.number_at(led, step[2]))
    return heap, hand


def _behind_leave(spread, heap, hand, lock, following):
    step = step_of(spread, hand)
    shared = [hand.leads_to(name) for name in shared_names(spread, step)]
    guards = hand.guards if lock is None else hand.guards + ((step[3], lock),)
    return heap.sharing(shared), hand.at_point(following, guards)


def behind_move(spread, heap, number, hand, move):
    """The pair (heap, hand) behind a move, other than a start, of the hand with this number."""
    word = move[0]
    if word == "go":
        changed, moved = _behind_step(spread, heap, number, hand, move[1])
        return changed, moved.at_point(move[2], _guards_behind(hand, step_of(spread, hand)))
    if word == "leave":
        return _behind_leave(spread, heap, hand, move[1], move[2])
    if word == "change":
        return heap.written(move[1], move[2], move[3]), hand
    if word == "enter":
        return heap, hand.inside((), None)
    if word == "want":
        return heap, hand.inside(hand.stack, move[1])
    stack = hand.stack + (hand.wanted,) if word == "take" else hand.stack[:-1]
    return heap, hand.inside(stack, None)
