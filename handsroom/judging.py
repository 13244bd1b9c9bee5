"""Held tables: which demands show the number that the object has ([45] to [47])."""

from handsroom.bareness import Finding
from handsroom.lonetable import locks_of
from handsroom.marks import first_marked, marked_after
from handsroom.runs import stale_run
from handsroom.spreading import Spread
from handsroom.tables import RoomTable, least_spot

_DEMANDS = ("read", "keep")


class HeldTable(RoomTable):
    """The nodes of a routine with the marked records that reach them."""

    def __init__(self, spread):
        super().__init__(spread)

    def _first(self):
        return first_marked(self.spread)

    def _behind(self, node, record):
        point, guards = node
        return marked_after(self.spread, locks_of(guards), record, self.spread.points[point].step)

    def is_known(self, spot):
        """True if the step of the spot is a demand that is known in its record."""
        step = self.spread.points[spot.node[0]].step
        return is_demand(step) and spot.record.knows(step[1], step[2])


def is_demand(step):
    """True if the step is a read or a keep."""
    return step[0] in _DEMANDS


def _status(table, point):
    if not is_demand(table.spread.points[point].step):
        return None
    known = [table.is_known(spot) for spot in table.spots_at(point)]
    if len(known) == 0:
        return "never"
    if all(known):
        return "spared"
    return "mixed" if any(known) else "needed"


def demand_statuses(table):
    """The statuses of all points of a held table."""
    return tuple([_status(table, point) for point in range(len(table.spread.points))])


def _stale_spots(table):
    points = table.spread.points
    return [spot for spot in table.spots if points[spot.node[0]].step[0] == "keep" and not table.is_known(spot)]


def find_stale(house):
    """The Finding of a keep that is not known, of the least depth; None if each one is known."""
    tables = [HeldTable(Spread(house, routine.name)) for routine in house.routines]
    found = least_spot([_stale_spots(table) for table in tables])
    if found is None:
        return None
    at, spot = found
    spread = tables[at].spread
    way = tables[at].way_to(spot.number)
    _, name, field = spread.points[spot.node[0]].step
    return Finding(spread.name, way, stale_run(spread, way, name, field))
