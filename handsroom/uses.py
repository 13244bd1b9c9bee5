"""Which marks a routine that stands for a body uses at its spots, and by which inside moves ([90])."""

from handsroom.answers import wishes
from handsroom.lonetable import locks_of
from handsroom.plain import is_integer
from handsroom.records import routine_in


def object_for(table, record, name):
    """The object for a name in the setting of cases: that of its argument, otherwise the shared one of its kind."""
    tag = table.tag_of(record, name)
    if is_integer(tag):
        return tag
    return shared_object(table, routine_in(table.spread).kind_of(name))


def shared_object(table, kind):
    """The shared object of a kind in the setting of cases."""
    return len(table.arguments) + table.spread.house.kinds.index(kind)


def change_by_write(table, record, step):
    """The change that a write of a name not in own is, () for any other step."""
    if step[0] != "write" or step[1] in record.own:
        return ()
    return (("change", object_for(table, record, step[1]), step[2], 1),)


def _uses_of_want(held, lock, moves):
    """The uses of a want of a lock, the last one of the moves, under held locks."""
    return [(("takes", lock), tuple(moves))] + [(("under", other, lock), tuple(moves)) for other in held]


def _uses_of_wishes(signature, held):
    """The uses of the wants of a body that is called under held locks."""
    found = []
    for stack, lock in wishes(signature):
        moves = [move for own in stack for move in (("want", own), ("take",))]
        found.extend(_uses_of_want(held + stack, lock, moves + [("want", lock)]))
    return found


def _changes_in_call(table, spot, signature, kind, field):
    """The lists of inside moves by which the body that is called changes a number of its sort, one or none."""
    house, held = table.spread.house, locks_of(spot.node[1])
    routine = routine_in(table.spread)
    names = table.step_of_spot(spot)[2]
    passed = [name for name in names if routine.kind_of(name) == kind and name not in spot.record.own]
    if len(passed) > 0:
        return [[("change", object_for(table, spot.record, passed[0]), field, 1)]]
    change = ("change", shared_object(table, kind), field, 1)
    guard = house.guard_of(kind)
    if guard is None:
        return [[change]]
    return [[("want", guard), ("take",), change]] if guard in signature.takes and guard not in held else []


def _uses_at_call(table, spot, step):
    signature = table.spread.house.signature_of(step[1])
    found = _uses_of_wishes(signature, locks_of(spot.node[1]))
    for kind, field in signature.writes:
        for moves in _changes_in_call(table, spot, signature, kind, field):
            found.append((("writes", kind, field), tuple(moves)))
    return found


def uses_at(table, spot):
    """A pair (mark, inside moves that use it) for each use of a mark, but for shares marks, by the step of a spot."""
    step = table.step_of_spot(spot)
    held = locks_of(spot.node[1])
    if step[0] == "take":
        return _uses_of_want(held, step[1], [("want", step[1])])
    if step[0] == "call":
        return _uses_at_call(table, spot, step)
    if step[0] == "stop":
        return [(("gives", lock), (("leave", lock),)) for tag, lock in spot.node[1] if tag == step[1]]
    routine = routine_in(table.spread)
    changes = change_by_write(table, spot.record, step)
    return [(("writes", routine.kind_of(step[1]), step[2]), (change,)) for change in changes]
