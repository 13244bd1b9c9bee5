"""Takes whose guards are of no use ([86])."""

from handsroom.guards import given_guard
from handsroom.records import routine_in
from handsroom.spreading import Spread
from handsroom.tables import RoomTable
from handsroom.touches import handled_name

_BUSY_WORDS = ("take", "call", "put")


def _is_busy(spread, spot):
    """True if the step of a spot may need a lock that its hand holds."""
    step = spread.points[spot.node[0]].step
    name = handled_name(step)
    return step[0] in _BUSY_WORDS or name is not None and name not in spot.record.own


def _idle_in(spread):
    table = RoomTable(spread)
    busy = [tag for spot in table.spots if _is_busy(spread, spot) for tag, _ in spot.node[1]]
    given = given_guard(routine_in(spread))
    found = []
    for point in spread.points:
        if point.step[0] == "take" and point.step[2] != given and point.step[2] not in busy:
            found.append((spread.name, point.row, point.deed))
    return found


def idle_takes(house):
    """The places of all idle takes, in order."""
    return tuple([place for routine in house.routines for place in _idle_in(Spread(house, routine.name))])
