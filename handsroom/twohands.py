"""Demands that are open in some weaving, and reads that are not ([71], [75] to [77])."""

from handsroom.changing import keeping
from handsroom.errors import BadPoint
from handsroom.judging import HeldTable, is_demand
from handsroom.plain import is_index
from handsroom.products import Product
from handsroom.records import routine_in
from handsroom.runs import stale_run
from handsroom.shown import weaving_along
from handsroom.spreading import Spread
from handsroom.standard import moves_along

_DEMANDS = ("read", "keep")


class Opening:
    """A weaving whose last turn is an open go at a demand."""

    def __init__(self, routine, point, hands, length, firsts, turns):
        self.routine = routine
        self.point = point
        self.hands = hands
        self.length = length
        self.firsts = firsts
        self.turns = turns


class Candidate:
    """The end of a weaving of one or two hands that makes a demand of the routine of a spread form open.

    For one hand table is a held table and at the number of a spot, for two hands table is a
    Product and at a state.
    """

    def __init__(self, spread, point, hands, length, table, at):
        self.spread = spread
        self.point = point
        self.hands = hands
        self.length = length
        self.table = table
        self.at = at


def _may_write(spread, kind, field):
    """True if a hand that runs the routine may write or change such a number."""
    routine = routine_in(spread)
    for point in spread.points:
        step = point.step
        if step[0] == "write" and (routine.kind_of(step[1]), step[2]) == (kind, field):
            return True
        if step[0] == "call" and (kind, field) in spread.house.signature_of(step[1]).writes:
            return True
    return False


def _open_alone(table, points):
    """A Candidate of one hand and of the least length for each of these points that is open in a lone run."""
    found = []
    for point in points:
        spots = [spot for spot in table.spots_at(point) if not table.is_known(spot)]
        if len(spots) > 0:
            # Spots are numbered by ascending depth.
            found.append(Candidate(table.spread, point, 1, spots[0].depth, table, spots[0].number))
    return found


def _open_in(product, spread, points):
    """A Candidate of two hands for each of these points that is open in a product."""
    found = {}
    # Open states come by ascending distance.
    for state in product.open_states():
        point = state[0][0][0]
        if point in points and point not in found:
            found[point] = Candidate(spread, point, 2, product.distance_to(state), product, state)
    return list(found.values())


def _sorts_at(spread, points):
    """For each sort that the demands at some points show, its points."""
    routine = routine_in(spread)
    found = {}
    for point in points:
        _, name, field = spread.points[point].step
        found.setdefault((routine.kind_of(name), field), []).append(point)
    return found


def _open_with_another(spread, points):
    """A Candidate of two hands and of the least length for each of these points that two hands make open."""
    house = spread.house
    found = []
    for (kind, field), same in _sorts_at(spread, points).items():
        for other in house.routines:
            if _may_write(Spread(house, other.name), kind, field):
                found.extend(_open_in(Product(house, spread.name, other.name, kind, field), spread, same))
    least = [_least([candidate for candidate in found if candidate.point == point]) for point in points]
    return [candidate for candidate in least if candidate is not None]


def _least(candidates):
    """The Candidate of the least length, None if there is none."""
    return min(candidates, key=lambda one: one.length) if len(candidates) > 0 else None


def _left_over(table, points, found):
    """The points that a hand reaches and at which no Candidate is found yet."""
    taken = [candidate.point for candidate in found]
    return [point for point in points if point not in taken and len(table.spots_at(point)) > 0]


def _candidates(spread, points):
    """A Candidate of the fewest hands, of the least length, for each of these points that is open in a weaving."""
    table = HeldTable(spread)
    found = _open_alone(table, points)
    return found + _open_with_another(spread, _left_over(table, points, found))


def _points_of(spread, words):
    """The points of the demands with one of these words."""
    return [at for at, point in enumerate(spread.points) if point.step[0] in words]


def _open_among(spread, points):
    return sorted([candidate.point for candidate in _candidates(spread, points)])


def _spreads_of(house):
    return [Spread(house, routine.name) for routine in house.routines]


def _place_of(spread, at):
    point = spread.points[at]
    return (spread.name, point.row, point.deed)


def open_points(house, name):
    """The points of a routine whose demands are open in some weaving, ascending."""
    spread = Spread(house, name)
    return tuple(_open_among(spread, _points_of(spread, _DEMANDS)))


def _open_places(house, words):
    found = []
    for spread in _spreads_of(house):
        found.extend([_place_of(spread, at) for at in _open_among(spread, _points_of(spread, words))])
    return tuple(found)


def open_places(house):
    """The places of all demands that are open in some weaving, in order."""
    return _open_places(house, _DEMANDS)


def open_keeps(house):
    """The places of all keeps that are open in some weaving, in order."""
    return _open_places(house, ("keep",))


def _lone_weaving(candidate):
    """The first objects and turns of a lone run to a spot whose demand is not known."""
    spread = candidate.spread
    way = candidate.table.way_to(candidate.at)
    _, name, field = spread.points[candidate.point].step
    run = stale_run(spread, way, name, field)
    moves = moves_along(spread.house, spread.name, way, run.start, run.answers)
    return run.objects, tuple([(0, move) for move in moves])


def _number_of_keeper(way):
    """0 if the keeper starts ahead of the other hand on a way, otherwise 1."""
    _, other, _, _ = [state for state in way if state[0][0] is not None][0]
    return 0 if other[0] is None else 1


def _opening(candidate):
    """The Opening that ends where a Candidate is."""
    if candidate.hands == 1:
        firsts, turns = _lone_weaving(candidate)
        keeper = 0
    else:
        way = candidate.table.way_to(candidate.at)
        firsts, turns = weaving_along(candidate.table, way)
        keeper = _number_of_keeper(way)
    spread = candidate.spread
    last = (keeper, ("go", None, spread.points[candidate.point].nexts[0]))
    return Opening(spread.name, candidate.point, candidate.hands, candidate.length, firsts, turns + (last,))


def find_opening(house, name, point):
    """An Opening of the demand at a point, None if it is open in no weaving."""
    spread = Spread(house, name)
    if not is_index(point, len(spread.points)) or not is_demand(spread.points[point].step):
        raise BadPoint(point)
    found = _candidates(spread, [point])
    return _opening(found[0]) if len(found) > 0 else None


def find_stale_woven(house):
    """An Opening of a keep, of the fewest hands and the least length; None if no keep is open in any weaving."""
    spreads = _spreads_of(house)
    tables = [HeldTable(spread) for spread in spreads]
    keeps = [_points_of(spread, ("keep",)) for spread in spreads]
    found = [candidate for at, table in enumerate(tables) for candidate in _open_alone(table, keeps[at])]
    if len(found) == 0:
        reached = [_left_over(table, keeps[at], []) for at, table in enumerate(tables)]
        found = [one for at, spread in enumerate(spreads) for one in _open_with_another(spread, reached[at])]
    least = _least(found)
    return None if least is None else _opening(least)


def spared_for_all(house):
    """The places of the reads that are open in no weaving, in order."""
    found = []
    for spread in _spreads_of(house):
        reads = _points_of(spread, ("read",))
        opened = _open_among(spread, reads)
        found.extend([_place_of(spread, at) for at in reads if at not in opened])
    return tuple(found)


def kept_for_all(house):
    """The house in which all reads that are spared for all hands are keeps."""
    return keeping(house, spared_for_all(house))
