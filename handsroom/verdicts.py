"""Whether a house is right, and weavings that show its faults ([91] to [94], [100])."""

from handsroom.bareness import find_bare, touch_statuses
from handsroom.needs import requests_of
from handsroom.nesting import breach_of, house_nests
from handsroom.rings import find_ring, least_ring
from handsroom.spreading import Spread
from handsroom.standard import moves_along, standard_firsts
from handsroom.tables import RoomTable
from handsroom.twohands import find_stale_woven, open_keeps


class Fault:
    """A weaving that makes a fault at its last turn, and not before."""

    def __init__(self, word, firsts, turns, length, hands):
        self.word = word
        self.firsts = firsts
        self.turns = turns
        self.length = length
        self.hands = hands

    def lines(self):
        """The lines of the fault in a report."""
        return (f"{self.word}: hands {self.hands}, length {self.length}",)


def _line_at_point(line, fault):
    return f"{line}, routine {fault.routine}, point {fault.point}"


class Bare(Fault):
    """A weaving whose last turn touches a shared object without its lock."""

    def __init__(self, firsts, turns, length, hands, routine, point):
        super().__init__("bare", firsts, turns, length, hands)
        self.routine = routine
        self.point = point

    def lines(self):
        """The lines of the fault in a report."""
        return (_line_at_point(super().lines()[0], self),)


class Stale(Fault):
    """A weaving whose last turn shows an old number."""

    def __init__(self, firsts, turns, length, hands, routine, point):
        super().__init__("stale", firsts, turns, length, hands)
        self.routine = routine
        self.point = point

    def lines(self):
        """The lines of the fault in a report."""
        return (_line_at_point(super().lines()[0], self),)


class Ring(Fault):
    """A weaving after which all its hands wait for one another."""

    def __init__(self, firsts, turns, length, hands, requests):
        super().__init__("ring", firsts, turns, length, hands)
        self.requests = requests

    def lines(self):
        """The lines of the fault in a report."""
        rows = [f"  holds {'+'.join(held)}, wants {wanted}" for held, wanted in self.requests]
        return super().lines() + tuple(rows)


def _touching_move(point):
    """The move that enters or does the touching step of a point."""
    if point.step[0] == "call":
        return ("enter",)
    return ("go", 0 if point.step[0] == "write" else None, point.nexts[0])


def _bare_in(house):
    """The least Bare of a house, None if there is none."""
    found = find_bare(house)
    if found is None:
        return None
    moves = moves_along(house, found.name, found.way, found.run.start, found.run.answers)
    point = found.way[-1][0]
    last = _touching_move(Spread(house, found.name).points[point])
    turns = tuple([(0, move) for move in moves + (last,)])
    return Bare(found.run.objects, turns, len(found.way) - 1, 1, found.name, point)


def _stale_in(house):
    """The least Stale of a house, None if there is none."""
    found = find_stale_woven(house)
    if found is None:
        return None
    return Stale(found.firsts, found.turns, found.length, found.hands, found.routine, found.point)


def _ring_in(house):
    """The least Ring of a house that nests, None if there is none."""
    found = find_ring(house)
    if found is None:
        return None
    return Ring(standard_firsts(house), found.turns, found.total, len(found.requests), found.requests)


class Verdict:
    """Whether a house is right, and if not, why."""

    def __init__(self, house):
        self.house = house
        self.breach = breach_of(house)
        self.bare = _bare_in(house)
        self.stale = _stale_in(house)
        self.ring = _ring_in(house) if self.breach is None else None
        self.is_right = all([part is None for part in (self.breach, self.bare, self.stale, self.ring)])

    def lines(self):
        """The lines of the verdict in a report."""
        nests, ring = "nests: yes", "ring: no"
        if self.breach is not None:
            name, path = self.breach
            nests, ring = f"nests: no, routine {name}, length {len(path) - 1}", "ring: not decided"
        lines = [nests]
        for part, otherwise in ((self.bare, "bare: no"), (self.stale, "stale: no"), (self.ring, ring)):
            lines.extend([otherwise] if part is None else part.lines())
        return tuple(lines + ["right: yes" if self.is_right else "right: no"])


def judged_right(house):
    """True if the house is right; no weaving is made that shows a fault."""
    if find_bare(house) is not None or not house_nests(house):
        return False
    return len(least_ring(requests_of(house))) == 0 and find_stale_woven(house) is None


def _bare_places_in(house, name):
    table = RoomTable(Spread(house, name))
    points = table.spread.points
    bare = [points[at] for at, status in enumerate(touch_statuses(table)) if status in ("bare", "mixed")]
    return [(name, point.row, point.deed) for point in bare]


def bare_places(house):
    """The places of the deeds that make the fault "bare" in some weaving, in order."""
    return tuple([place for routine in house.routines for place in _bare_places_in(house, routine.name)])


def stale_places(house):
    """The places of the keeps that make the fault "stale" in some weaving, in order."""
    return open_keeps(house)
