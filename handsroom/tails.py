"""Quiet points, free rows, and drops put ahead of them ([84], [85])."""

from handsroom.changing import ending
from handsroom.errors import BadLine, NoTag
from handsroom.guards import makers
from handsroom.lonetable import LoneTable
from handsroom.routines import part_ends
from handsroom.spreading import Spread
from handsroom.tables import RoomTable
from handsroom.touches import handled_name

_QUIET_WORDS = ("skip", "make", "copy", "put")
_DIVIDING_WORDS = ("or", "close")


def is_quiet(table, point):
    """True if the point of the routine of a room table is quiet."""
    step = table.spread.points[point].step
    name = handled_name(step)
    if name is None:
        return step[0] in _QUIET_WORDS
    return all([name in spot.record.own for spot in table.spots_at(point)])


def _can_end_at(table, guard, point):
    """True if the guard is missing or the last one at each node of a lone table at the point."""
    tags = [[tag for tag, _ in guards] for _, guards in table.nodes_at(point)]
    return all([guard not in held or held[-1] == guard for held in tags])


def _candidates(routine, maker):
    """The rows behind that of a maker in its part that could be free, ascending."""
    ends = part_ends(routine)
    end = ends[maker.row]
    same = [row for row in range(maker.row + 1, end) if ends[row] == end]
    return [row for row in same if routine.rows[row].word not in _DIVIDING_WORDS]


def free_rows(house, name, guard):
    """The free rows of a guard in a routine, ascending."""
    routine = house.routine_of(name)
    bearing = [maker for maker in makers(house, name) if maker.fate == "named" and maker.tag == guard]
    if len(bearing) == 0:
        raise NoTag(guard)
    if any([row.guard == guard for row in routine.rows]):
        return ()
    spread = Spread(house, name)
    rooms, nodes = RoomTable(spread), LoneTable(spread)
    maker = bearing[0]
    found = []
    for row in _candidates(routine, maker):
        points = [point for later in range(row, maker.end_row) for point in spread.points_of(later)]
        quiet = all([is_quiet(rooms, point) for point in points])
        if quiet and _can_end_at(nodes, guard, spread.first_point(row)):
            found.append(row)
    return tuple(found)


def _with_drop(house, name, guard):
    """The house with a drop of the guard ahead of its first free row, if it has one and the bounds let it."""
    free = free_rows(house, name, guard)
    if len(free) == 0:
        return house
    try:
        return ending(house, name, free[0], guard)
    except BadLine:
        # The guard is in scope there, so it is a bound of rows or deeds that is broken.
        return house


def early_house(house):
    """The house in which drops are put ahead of the first free rows of guards."""
    early = house
    for routine in house.routines:
        for maker in makers(house, routine.name)[::-1]:
            if maker.fate == "named":
                early = _with_drop(early, routine.name, maker.tag)
    return early
