"""The spread form of a routine ([23], [24])."""

from handsroom.deeds import guard_name
from handsroom.errors import NoRow, NoTag
from handsroom.guards import ending_tags, given_guard, makers
from handsroom.plain import is_index
from handsroom.routines import next_rows

_ENDING_WORDS = ("or", "close")
_FORKS = ("either", "repeat")


class Point:
    """A point of a spread form."""

    def __init__(self, step, nexts, row, deed):
        self.step = step
        self.nexts = nexts
        self.row = row
        self.deed = deed


def _step_of(house, deed, row, index):
    guard = guard_name(deed)
    tag = guard if guard != "" else f"{row}.{index}"
    if deed[0] == "take":
        return ("take", deed[1], tag)
    if deed[0] == "call":
        return ("call", deed[1], deed[2], tag if house.makes_guard(deed) else "")
    return deed


def _steps_of(house, routine, found, number):
    """The pairs (step, index of the deed) for the points of a row, or of the end."""
    drops = [(("drop", tag), -1) for tag in ending_tags(routine, found, number)]
    if number == len(routine.rows):
        return drops + [(("stop", given_guard(routine)), -1)]
    row = routine.rows[number]
    steps = [(_step_of(house, deed, number, index), index) for index, deed in enumerate(row.deeds)]
    if row.word == "do":
        return steps + drops
    if row.word in _ENDING_WORDS:
        return drops
    if row.word in _FORKS:
        return [(("skip",), -1)]
    return [(("drop", row.guard), -1)] if row.word == "drop" else steps


def _first_points(counts, nexts):
    """For each row, and the end, its first point; counts are the numbers of points of the rows."""
    lowest = [sum(counts[:number]) for number in range(len(counts))]
    found = []
    for number in range(len(counts)):
        row = number
        while counts[row] == 0:
            row = nexts[row][0]
        found.append(lowest[row])
    return found


class Spread:
    """The spread form of a routine."""

    def __init__(self, house, name):
        routine = house.routine_of(name)
        self.house = house
        self.name = name
        self.makers = makers(house, name)
        end = len(routine.rows)
        steps = [_steps_of(house, routine, self.makers, number) for number in range(end + 1)]
        nexts = next_rows(routine)
        self.firsts = tuple(_first_points([len(row) for row in steps], nexts))
        points = []
        for number, row in enumerate(steps):
            for at, (step, index) in enumerate(row):
                following = (len(points) + 1,)
                if at == len(row) - 1:
                    following = self._behind_row(nexts[number]) if number < end else ()
                points.append(Point(step, following, number, index))
        self.points = tuple(points)

    def _behind_row(self, rows):
        firsts = [self.firsts[row] for row in rows]
        return tuple([point for at, point in enumerate(firsts) if point not in firsts[:at]])

    def __len__(self):
        return len(self.points)

    @property
    def stop_point(self):
        """The number of the stop point."""
        return len(self.points) - 1

    def points_of(self, row):
        """The numbers of the points of a row, or of the end, ascending."""
        if not is_index(row, len(self.firsts)):
            raise NoRow(row)
        return tuple([number for number, point in enumerate(self.points) if point.row == row])

    def first_point(self, row):
        """The first point of a row, or of the end."""
        if not is_index(row, len(self.firsts)):
            raise NoRow(row)
        return self.firsts[row]

    def maker_point(self, tag):
        """The point of the maker of this tag."""
        maker = self._maker_of(tag)
        places = [(point.row, point.deed) for point in self.points]
        return places.index((maker.row, maker.deed))

    def drop_points(self, tag):
        """The points whose step is a drop or a stop of this tag, ascending."""
        self._maker_of(tag)
        steps = (("drop", tag), ("stop", tag))
        return tuple([number for number, point in enumerate(self.points) if point.step in steps])

    def _maker_of(self, tag):
        for maker in self.makers:
            if maker.tag == tag:
                return maker
        raise NoTag(tag)
