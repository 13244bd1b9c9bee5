"""Room tables: the nodes of a routine with the records that reach them ([39])."""

from handsroom.errors import BadPoint, TooLarge
from handsroom.lonetable import START, lone_path, next_nodes
from handsroom.plain import is_index
from handsroom.records import first_record, record_after


class Spot:
    """A node together with a record, in a table."""

    def __init__(self, number, node, record, depth, parent, nexts):
        self.number = number
        self.node = node
        self.record = record
        self.depth = depth
        self.parent = parent
        self.nexts = nexts


class RoomTable:
    """The spots that the lone paths of a routine reach."""

    MOST_SPOTS = 600

    def __init__(self, spread):
        self.spread = spread
        self.spots = self._found_spots()

    def _first(self):
        """The record of spot 0."""
        return first_record(self.spread)

    def _behind(self, node, record):
        """The record behind the step of a node."""
        return record_after(self.spread, record, self.spread.points[node[0]].step)

    def _reached(self, node, record):
        """The record with which a node is reached, made from the one behind the step before."""
        return record

    def _found_spots(self):
        first = self._reached(START, self._first())
        found = [(START, first, 0, None)]
        numbers = {(START, first.key()): 0}
        nexts = []
        while len(nexts) < len(found):
            at = len(nexts)
            node, record, depth, _ = found[at]
            behind = self._behind(node, record)
            following = []
            for reached in next_nodes(self.spread, node):
                later = self._reached(reached, behind)
                key = (reached, later.key())
                if key not in numbers:
                    numbers[key] = len(found)
                    found.append((reached, later, depth + 1, at))
                following.append(numbers[key])
            if len(found) > self.MOST_SPOTS:
                raise TooLarge("spots")
            nexts.append(tuple(following))
        spots = []
        for number, (node, record, depth, parent) in enumerate(found):
            spots.append(Spot(number, node, record, depth, parent, nexts[number]))
        return tuple(spots)

    def __len__(self):
        return len(self.spots)

    def __iter__(self):
        return iter(self.spots)

    def spots_at(self, point):
        """The spots at a point, by number."""
        if not is_index(point, len(self.spread.points)):
            raise BadPoint(point)
        return tuple([spot for spot in self.spots if spot.node[0] == point])

    def way_to(self, number):
        """The lone path to a spot over the parents."""
        way = []
        while number is not None:
            way.append(self.spots[number].node)
            number = self.spots[number].parent
        return tuple(way[::-1])

    def spot_of(self, path):
        """The number of the spot that a lone path reaches."""
        number = 0
        for node in lone_path(self.spread, path)[1:]:
            number = [at for at in self.spots[number].nexts if self.spots[at].node == node][0]
        return number


def least_spot(chosen):
    """The pair (index, spot) of a spot of the least depth among lists of spots, one list for each table.

    Of several it is the one of the earliest table, then the one with the least number; None if there are none.
    """
    found = [(spot.depth, at, spot.number) for at, spots in enumerate(chosen) for spot in spots]
    if len(found) == 0:
        return None
    _, at, number = min(found)
    return at, [spot for spot in chosen[at] if spot.number == number][0]
