"""Touches of shared objects without their lock ([40])."""

from handsroom.joining import joined_run
from handsroom.spreading import Spread
from handsroom.tables import RoomTable, least_spot
from handsroom.touches import bare_names, touched


def _is_bare(spread, spot):
    return len(bare_names(spread, spot.node, spot.record)) > 0


def _status(table, point):
    spread = table.spread
    if len(touched(spread, spread.points[point].step)) == 0:
        return None
    bare = [_is_bare(spread, spot) for spot in table.spots_at(point)]
    if len(bare) == 0:
        return "never"
    if all(bare):
        return "bare"
    return "mixed" if any(bare) else "safe"


def touch_statuses(table):
    """The statuses of all points of a room table."""
    return tuple([_status(table, point) for point in range(len(table.spread.points))])


class Finding:
    """A run of a lone path of a routine at whose end the hand makes a fault next."""

    def __init__(self, name, way, run):
        self.name = name
        self.way = tuple(way)
        self.run = run


def find_bare(house):
    """The Finding of a bare spot of the least depth, None if there is no bare spot."""
    tables = [RoomTable(Spread(house, routine.name)) for routine in house.routines]
    found = least_spot([[spot for spot in table.spots if _is_bare(table.spread, spot)] for table in tables])
    if found is None:
        return None
    at, spot = found
    way = tables[at].way_to(spot.number)
    spread = tables[at].spread
    return Finding(spread.name, way, joined_run(spread, way))


def is_settled(house):
    """True if no object can become shared behind its making."""
    shares = [at for _, signature in house.bodies for at in signature.shares]
    rows = [row for routine in house.routines for row in routine.rows]
    puts = [deed for row in rows for deed in row.deeds if deed[0] == "put"]
    return len(shares) + len(puts) == 0
