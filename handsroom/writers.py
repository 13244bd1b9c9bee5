"""With which locks hands change the numbers of shared objects ([78])."""

from handsroom.errors import NoSuch
from handsroom.lonetable import locks_of
from handsroom.plain import in_order
from handsroom.records import routine_in
from handsroom.spreading import Spread
from handsroom.tables import RoomTable


def _sets_at_call(spread, spot, step, kind, field):
    """The held locks with which the body that a spot calls may change such a number."""
    signature = spread.house.signature_of(step[1])
    if (kind, field) not in signature.writes:
        return []
    routine = routine_in(spread)
    held = locks_of(spot.node[1])
    guard = spread.house.guard_of(kind)
    passed = [name for name in step[2] if routine.kind_of(name) == kind and name not in spot.record.own]
    found = [held] if len(passed) > 0 or guard is None else []
    if guard in signature.takes and guard not in held:
        found.append(held + (guard,))
    return found


def _sets_at(spread, spot, kind, field):
    """The held locks with which the step of a spot may change such a number of a shared object."""
    step = spread.points[spot.node[0]].step
    if step[0] == "call":
        return _sets_at_call(spread, spot, step, kind, field)
    if step[0] != "write" or step[2] != field or routine_in(spread).kind_of(step[1]) != kind:
        return []
    return [locks_of(spot.node[1])] if step[1] not in spot.record.own else []


def room_tables(house):
    """The room tables of all routines, in order."""
    return [RoomTable(Spread(house, routine.name)) for routine in house.routines]


def sets_in(house, tables, kind, field):
    """The writers' sets of a sort that come from the room tables of the house."""
    found = {}
    for table in tables:
        for spot in table.spots:
            for held in _sets_at(table.spread, spot, kind, field):
                found[tuple(sorted([house.locks.index(lock) for lock in held]))] = True
    return tuple([tuple([house.locks[at] for at in positions]) for positions in sorted(list(found))])


def writer_sets(house, kind, field):
    """The writers' sets of a sort, in order."""
    if field not in house.fields_of(kind):
        raise NoSuch(field)
    return sets_in(house, room_tables(house), kind, field)


def gate(sets, held):
    """True if each of some writers' sets contains one of the held locks."""
    return all([len(in_order(locks, held)) > 0 for locks in sets])


def is_gated(house, kind, field, held):
    """True if the held locks gate the sort."""
    return gate(writer_sets(house, kind, field), held)
