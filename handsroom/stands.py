"""Stands: where a hand is behind its standard moves, and which locks it has taken by then ([66], [67])."""

from handsroom.answers import own_stacks, wishes
from handsroom.errors import BadStand
from handsroom.lonetable import lone_path, locks_of
from handsroom.plain import in_order
from handsroom.spreading import Spread
from handsroom.standard import standard_moves


def _is_stack(house, step, guards, stack):
    """True if the value, any value, is an own stack inside the call that is the step."""
    if not isinstance(stack, (list, tuple)) or step[0] != "call":
        return False
    known = tuple(stack) in own_stacks(house.signature_of(step[1]))
    return known and not any([lock in guards for lock in stack])


def _is_wish(house, step, stack, lock):
    return stack is not None and (tuple(stack), lock) in wishes(house.signature_of(step[1]))


def _takings(spread, path, moves):
    """A pair (index, lock) for each move that takes a lock."""
    found = []
    at = 0
    for index, move in enumerate(moves):
        step = spread.points[path[at][0]].step
        if move[0] == "take":
            # Standard moves want a lock just before they take it inside a call.
            found.append((index, moves[index - 1][1]))
        if move[0] == "go" and step[0] == "take":
            found.append((index, step[1]))
        if move[0] in ("go", "leave"):
            at += 1
    return tuple(found)


class Stand:
    """A routine, a lone path of it, and how far the hand is in the call at its end."""

    def __init__(self, house, routine, nodes, *, stack=None, wanted=None):
        spread = Spread(house, routine)
        path = lone_path(spread, nodes)
        step = spread.points[path[-1][0]].step
        guards = locks_of(path[-1][1])
        if stack is not None and not _is_stack(house, step, guards, stack):
            raise BadStand("stack")
        if wanted is not None and not _is_wish(house, step, stack, wanted):
            raise BadStand("wanted")
        self.house = house
        self.routine = routine
        self.nodes = path
        self.stack = None if stack is None else tuple(stack)
        self.wanted = step[1] if step[0] == "take" else wanted
        self.lock_stack = guards + (() if stack is None else tuple(stack))
        self.held = in_order(house.locks, self.lock_stack)
        self.length = len(path) - 1
        self.moves = standard_moves(house, routine, path, stack=self.stack, wanted=wanted)
        self.takings = _takings(spread, path, self.moves)
