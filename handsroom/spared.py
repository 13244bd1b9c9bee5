"""Reads that one hand alone can replace by keeps ([48], [49])."""

from handsroom.changing import keeping
from handsroom.judging import HeldTable, demand_statuses
from handsroom.spreading import Spread


def _spared_in(house, name):
    spread = Spread(house, name)
    statuses = demand_statuses(HeldTable(spread))
    reads = [at for at, point in enumerate(spread.points) if point.step[0] == "read"]
    points = [spread.points[at] for at in reads if statuses[at] in ("spared", "never")]
    return [(name, point.row, point.deed) for point in points]


def spared(house):
    """The spared reads of a house, in order."""
    return tuple([place for routine in house.routines for place in _spared_in(house, routine.name)])


def kept(house):
    """The house in which all spared reads are keeps."""
    return keeping(house, spared(house))
