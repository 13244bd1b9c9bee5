"""Weavings from their beginning on, and how a machine is finished ([53], [57])."""

from handsroom.errors import Unfinished
from handsroom.machine import Machine
from handsroom.moverules import fetchable
from handsroom.spreading import Spread


def length_of(weaving):
    """The number of goes and leaves of a weaving."""
    return len([move for _, move in weaving if move[0] in ("go", "leave")])


def replay(house, firsts, weaving):
    """The machine behind a weaving from first objects."""
    machine = Machine(house, firsts)
    machine.attempt(weaving)
    return machine


def _fetchable(machine, hand):
    state = machine.hand_at(hand)
    return fetchable(Spread(machine.house, state.routine), machine.heap_now, state)


def _is_short(machine, hand):
    step = machine.step_at(hand)
    return step is not None and step[0] == "fetch" and len(_fetchable(machine, hand)) == 0


def _default_go(machine, hand):
    word = machine.step_at(hand)[0]
    nexts = machine.nexts_at(hand)
    answer = 0 if word == "write" else None
    if word == "fetch":
        answer = _fetchable(machine, hand)[0]
    return ("go", answer, nexts[-1] if len(nexts) > 0 else None)


def _default_inside(machine, hand):
    state = machine.hand_at(hand)
    signature = machine.house.signature_of(machine.step_at(hand)[1])
    following = machine.nexts_at(hand)[0]
    if state.wanted is not None:
        return ("take",)
    if len(state.stack) == 1 and state.stack[0] in signature.gives:
        return ("leave", state.stack[0], following)
    if len(state.stack) > 0:
        return ("back",)
    return ("want", signature.gives[0]) if signature.is_giving else ("leave", None, following)


def default_move(machine, hand):
    """The default move of a hand, None if it is over or short."""
    state = machine.hand_at(hand)
    if state.over or _is_short(machine, hand):
        return None
    if state.stack is not None:
        return _default_inside(machine, hand)
    return ("enter",) if machine.step_at(hand)[0] == "call" else _default_go(machine, hand)


def _next_turn(machine):
    """The turn of the least hand that has a default move and need not wait, None if there is none."""
    for hand in range(len(machine)):
        if machine.waits_for(hand) is None:
            move = default_move(machine, hand)
            if move is not None:
                return hand, move
    return None


def finish(machine):
    """The turns that finish a machine."""
    trial = machine.duplicate()
    turn = _next_turn(trial)
    while turn is not None:
        hand, move = turn
        trial.turn(hand, move)
        turn = _next_turn(trial)
    if not all([trial.hand_at(hand).over for hand in range(len(trial))]):
        short = [hand for hand in range(len(trial)) if _is_short(trial, hand)]
        raise Unfinished(trial.ring(), tuple(short))
    return trial.turns_made[len(machine.turns_made):]
