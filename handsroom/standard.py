"""Standard first objects and standard moves (behind [60])."""

from handsroom.lonetable import lone_path
from handsroom.scenes import Scene, given_lock
from handsroom.spreading import Spread

_OF_EACH_KIND = 5


def standard_firsts(house):
    """The standard first objects: five of each kind, with 0 at each field."""
    firsts = []
    for kind in house.kinds:
        numbers = tuple([0 for _ in house.fields_of(kind)])
        firsts.extend([(kind, numbers) for _ in range(_OF_EACH_KIND)])
    return tuple(firsts)


def _moves_at(spread, node, following, answer):
    """The moves of a hand from a node to a next node."""
    if spread.points[node[0]].step[0] != "call":
        return [("go", answer, following[0])]
    return [("enter",)] + list(answer) + [("leave", given_lock(node, following), following[0])]


def _moves(spread, nodes, objects, answers):
    found = [("start", spread.name, tuple(objects))]
    for at, node in enumerate(nodes[:-1]):
        found.extend(_moves_at(spread, node, nodes[at + 1], answers[at]))
    return tuple(found)


def moves_along(house, routine, nodes, objects, answers):
    """The moves along a lone path, for start objects and answers."""
    spread = Spread(house, routine)
    return _moves(spread, lone_path(spread, nodes), objects, answers)


def _standard_answer(scene, node, following):
    """The answer of the default move at a node, or the inside moves that give what the next node holds."""
    step = scene.spread.points[node[0]].step
    if step[0] == "fetch":
        return [number for number in range(len(scene.kinds)) if scene.allows(node, following, number)][0]
    if step[0] == "call":
        lock = given_lock(node, following)
        return () if lock is None else (("want", lock), ("take",))
    return 0 if step[0] == "write" else None


def _call_into(stack, wanted):
    """The moves from a call into its body, up to an own stack and a wanted lock or None."""
    moves = [("enter",)]
    for lock in stack:
        moves.extend([("want", lock), ("take",)])
    return tuple(moves if wanted is None else moves + [("want", wanted)])


def standard_moves(house, routine, nodes, *, stack=None, wanted=None):
    """The standard moves along a lone path; with an own stack they go on into the call at its end."""
    spread = Spread(house, routine)
    path = lone_path(spread, nodes)
    firsts = standard_firsts(house)
    kinds = [kind for kind, _ in firsts]
    start = [kinds.index(kind) for _, kind in house.routine_of(routine).names]
    scene = Scene(spread, firsts, start)
    answers = []
    for at, node in enumerate(path[:-1]):
        answers.append(_standard_answer(scene, node, path[at + 1]))
        scene.do_step(spread.points[node[0]].step, answers[at])
    moves = _moves(spread, path, start, answers)
    return moves if stack is None else moves + _call_into(stack, wanted)
