"""Routines, their blocks, scopes and row paths ([13] to [16])."""

from handsroom.deeds import guard_name
from handsroom.errors import BadLine, BadPath, NoSuch
from handsroom.plain import is_integer
from handsroom.shapes import routine_fault

_FORKS = ("either", "repeat")


class Routine:
    """A routine: its name, its object names with their kinds, and its rows."""

    def __init__(self, name, names, rows):
        fault = routine_fault(name, names, rows)
        if fault is not None:
            line, rule = fault
            raise BadLine(line, rule)
        self.name = name
        self.names = tuple(names)
        self.rows = tuple(rows)

    def __eq__(self, other):
        if not isinstance(other, Routine):
            return False
        return self.name == other.name and self.names == other.names and self.rows == other.rows

    def kind_of(self, name):
        """The kind of an object name."""
        for known, kind in self.names:
            if known == name:
                return kind
        raise NoSuch(name)

    def text(self):
        """The lines of the routine."""
        words = ["routine", self.name] + [name + ":" + kind for name, kind in self.names]
        return "\n".join([" ".join(words)] + [row.text() for row in self.rows] + ["done"])


def each_deed(routine):
    """Yields (number of the row, index, deed) for each deed, in order."""
    for number, row in enumerate(routine.rows):
        for index, deed in enumerate(row.deeds):
            yield number, index, deed


def blocks(routine):
    """A triple (opening row, or row or None, close row) for each block."""
    triples = []
    pending = []
    for number, row in enumerate(routine.rows):
        if row.opens:
            pending.append(len(triples))
            triples.append((number, None, None))
        elif row.word == "or":
            triples[pending[-1]] = (triples[pending[-1]][0], number, None)
        elif row.word == "close":
            at = pending.pop()
            triples[at] = triples[at][:2] + (number,)
    return tuple(triples)


def _part_end(triples, number, end):
    # Later triples lie further inside, so the last one around the row decides.
    for opening, middle, closing in triples:
        if opening < number < closing and number != middle:
            end = middle if middle is not None and number < middle else closing
    return end


def part_ends(routine):
    """For each row the row, or the end, that ends the part in which it stands."""
    triples = blocks(routine)
    end = len(routine.rows)
    return tuple([_part_end(triples, number, end) for number in range(end)])


def _jumps(routine):
    """The next rows of the rows that do not simply go on, by row."""
    jumps = {}
    for opening, middle, closing in blocks(routine):
        if routine.rows[opening].word == "repeat":
            jumps[opening] = (opening + 1, closing + 1)
            jumps[closing] = (opening,)
        elif middle is not None:
            jumps[opening] = (opening + 1, middle + 1)
            jumps[middle] = (closing + 1,)
        elif routine.rows[opening].word == "either":
            jumps[opening] = (opening + 1, closing + 1)
    return jumps


def next_rows(routine):
    """For each row the tuple of its next rows."""
    jumps = _jumps(routine)
    return tuple([jumps.get(number, (number + 1,)) for number in range(len(routine.rows))])


def scopes(routine):
    """For each row, and for the end, the guard names in scope."""
    ends = part_ends(routine)
    found = [() for _ in range(len(routine.rows) + 1)]
    for number, _, deed in each_deed(routine):
        guard = guard_name(deed)
        if guard != "":
            for at in range(number + 1, ends[number] + 1):
                found[at] = found[at] + (guard,)
    return tuple(found)


def row_path(routine, choices):
    """The row path with these choices."""
    nexts = next_rows(routine)
    path = [0]
    for position, choice in enumerate(choices):
        _run_to_fork(routine, nexts, path)
        if path[-1] == len(nexts) or not is_integer(choice) or choice not in (0, 1):
            raise BadPath(position)
        path.append(nexts[path[-1]][choice])
    _run_to_fork(routine, nexts, path)
    if path[-1] < len(nexts):
        raise BadPath(len(choices))
    return tuple(path)


def _run_to_fork(routine, nexts, path):
    """Adds the rows up to the next fork or the end behind a path."""
    while path[-1] < len(nexts) and routine.rows[path[-1]].word not in _FORKS:
        path.append(nexts[path[-1]][0])


def choices_of(routine, path):
    """The choices of a row path."""
    nexts = next_rows(routine)
    possible = (0,)
    choices = []
    for position, number in enumerate(path):
        if not is_integer(number) or number not in possible:
            raise BadPath(position)
        if len(possible) > 1:
            choices.append(possible.index(number))
        possible = nexts[number] if number < len(nexts) else ()
    if possible != ():
        raise BadPath(len(path))
    return tuple(choices)
