"""Weavings carried from a house to one in which some drops stand elsewhere ([81], [85])."""

from handsroom.changing import ending, naming
from handsroom.replay import replay
from handsroom.spreading import Spread


class Track:
    """How a hand goes along the points of a routine whose drops have been moved.

    before and behind are the spread forms in the house of the weaving and in the one to which it
    is carried; left are the drops in the first one that are left out, put those in the second one
    that are put in.
    """

    def __init__(self, before, behind, left, put):
        self.before = before
        self.behind_points = behind.points
        self.left = left
        self.put = put
        kept = [number for number in range(len(before)) if number not in left]
        others = [number for number in range(len(behind)) if number not in put]
        self.numbers = {number: others[at] for at, number in enumerate(kept)}

    def _goal(self, following):
        """The point to which a hand that goes to a point comes over the drops that are left out."""
        while following in self.left:
            following = self.before.points[following].nexts[0]
        return self.numbers[following]

    def _way(self, number):
        """The points from one on over the drops that are put in, up to the first other one."""
        way = [number]
        while way[-1] in self.put:
            way.append(self.behind_points[way[-1]].nexts[0])
        return way

    def way_to_next(self, point, following):
        """The points to which a hand goes that went from a point to a following one, in order."""
        goal = self._goal(following)
        ways = [self._way(number) for number in self.behind_points[self.numbers[point]].nexts]
        return [way for way in ways if way[-1] == goal][0]


def _carried_turns(turns, tracks):
    """The turns to which those of a weaving are carried; tracks has a Track for each routine."""
    routines = []
    points = []
    found = []
    for hand, move in turns:
        if move[0] == "start":
            routines.append(move[1])
            points.append(0)
        if move[0] not in ("go", "leave"):
            found.append((hand, move))
            continue
        track, point, following = tracks[routines[hand]], points[hand], move[2]
        points[hand] = following
        if following is None:
            found.append((hand, move))
        elif point not in track.left:
            way = track.way_to_next(point, following)
            found.append((hand, move[:2] + (way[0],)))
            found.extend([(hand, ("go", None, number)) for number in way[1:]])
    return tuple(found)


def _drops_of(spread, places):
    """The drop points of the guards of the makers at some places (row, index) of a routine."""
    tags = [maker.tag for maker in spread.makers if (maker.row, maker.deed) in places]
    return [number for tag in tags for number in spread.drop_points(tag)]


def carried(house, lot, firsts, weaving):
    """The turns to which a weaving of the named house of a lot is carried in the house."""
    places = list(lot)
    named_house = naming(house, places)
    turns = replay(named_house, firsts, weaving).turns_made
    tracks = {}
    for routine in house.routines:
        before, behind = Spread(named_house, routine.name), Spread(house, routine.name)
        chosen = [place[1:] for place in places if place[0] == routine.name]
        tracks[routine.name] = Track(before, behind, _drops_of(before, chosen), _drops_of(behind, chosen))
    return _carried_turns(turns, tracks)


def carried_early(house, name, row, guard, firsts, weaving):
    """The turns to which a weaving of the house is carried in the one with a drop of the guard ahead of the row."""
    changed = ending(house, name, row, guard)
    turns = replay(house, firsts, weaving).turns_made
    tracks = {}
    for routine in house.routines:
        before, behind = Spread(house, routine.name), Spread(changed, routine.name)
        put = list(behind.points_of(row)) if routine.name == name else []
        tracks[routine.name] = Track(before, behind, [], put)
    return _carried_turns(turns, tracks)
