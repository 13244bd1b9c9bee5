"""Houses that can be judged apart ([87])."""

from handsroom.errors import Unlike
from handsroom.needs import requests_of
from handsroom.plain import in_order
from handsroom.routines import each_deed
from handsroom.writers import room_tables, sets_in

_DEMANDS = ("read", "keep")


def _used_locks(house):
    """The locks that are held or wanted in the requests of a house."""
    return [lock for held, wanted in requests_of(house) for lock in held + (wanted,)]


def common_locks(house, other):
    """The locks that both houses use, in order."""
    if house.hall != other.hall:
        raise Unlike()
    return in_order(in_order(house.locks, _used_locks(house)), _used_locks(other))


def _shown_sorts(house):
    """The sorts of the reads and keeps that stand in the rows of a house."""
    found = []
    for routine in house.routines:
        shown = [deed for _, _, deed in each_deed(routine) if deed[0] in _DEMANDS]
        found.extend([(routine.kind_of(name), field) for _, name, field in shown])
    return found


def _writes_for(house, other):
    """True if the first house has a writers' set for a sort that the other one shows."""
    tables = room_tables(house)
    return any([len(sets_in(house, tables, kind, field)) > 0 for kind, field in _shown_sorts(other)])


def fall_apart(house, other):
    """True if the houses fall apart."""
    locks = common_locks(house, other)
    # Both are asked, so that a table that is too large is always told.
    writing = [_writes_for(house, other), _writes_for(other, house)]
    return len(locks) <= 1 and not any(writing)
