"""Houses and their texts ([17] to [20])."""

from handsroom.drafts import first_fault, house_lines, read_line
from handsroom.errors import BadLine, NoSuch, Unlike
from handsroom.kinds import Hall
from handsroom.routines import Routine
from handsroom.signatures import read_signature


def _check(lines):
    fault = first_fault(lines)
    if fault is not None:
        line, rule = fault
        raise BadLine(line, rule)


def _hall_in(lines):
    locks = [line[1] for line in lines if line[0] == "lock"]
    descriptions = [line[1] for line in lines if line[0] == "kind"]
    return Hall(locks, *descriptions)


def _routines_in(lines):
    starts = [at for at, line in enumerate(lines) if line[0] == "routine"]
    ends = [at for at, line in enumerate(lines) if line[0] == "done"]
    routines = []
    for start, end in zip(starts, ends):
        rows = [line[1] for line in lines[start + 1:end]]
        routines.append(Routine(lines[start][1], lines[start][2], rows))
    return routines


class House:
    """A house: a hall, bodies and routines, each in an order."""

    def __init__(self, hall, bodies, routines):
        _check(house_lines(hall, bodies, [(one.name, one.names, one.rows) for one in routines]))
        self.hall = hall
        self.locks = hall.locks
        self.kinds = hall.kinds
        self.sorts = hall.sorts
        self.bodies = tuple([(name, read_signature(hall, known.text())) for name, known in bodies])
        self.routines = tuple(routines)

    @staticmethod
    def read(text):
        """The house with this text."""
        lines = [read_line(line) for line in text.split("\n")]
        _check(lines)
        hall = _hall_in(lines)
        bodies = [(line[1], read_signature(hall, line[2])) for line in lines if line[0] == "body"]
        return House(hall, bodies, _routines_in(lines))

    def __eq__(self, other):
        if not isinstance(other, House):
            return False
        return self.hall == other.hall and self.bodies == other.bodies and self.routines == other.routines

    def __add__(self, other):
        if self.hall != other.hall:
            raise Unlike()
        shared = [(mine, known) for mine in self.bodies for known in other.bodies if mine[0] == known[0]]
        if any([mine[1] != known[1] for mine, known in shared]):
            raise Unlike()
        names = [name for name, _ in self.bodies]
        bodies = self.bodies + tuple([body for body in other.bodies if body[0] not in names])
        return House(self.hall, bodies, self.routines + other.routines)

    def text(self):
        """The text of the house."""
        lines = [self.hall.text()]
        lines = lines + ["body " + name + " " + signature.text() for name, signature in self.bodies]
        return "\n".join(lines + [routine.text() for routine in self.routines])

    def guard_of(self, kind):
        """The lock of the kind, None if it is open."""
        return self.hall.guard_of(kind)

    def fields_of(self, kind):
        """The fields of the kind, in order."""
        return self.hall.fields_of(kind)

    def signature_of(self, body):
        """The signature of the body of this name."""
        for name, signature in self.bodies:
            if name == body:
                return signature
        raise NoSuch(body)

    def routine_of(self, name):
        """The routine of this name."""
        for routine in self.routines:
            if routine.name == name:
                return routine
        raise NoSuch(name)

    def makes_guard(self, deed):
        """True if a deed of the house is a take or a call of a giving body."""
        return deed[0] == "take" or deed[0] == "call" and self.signature_of(deed[1]).is_giving

    def with_signature(self, body, signature):
        """The house in which the body has this signature."""
        self.signature_of(body)
        bodies = [(name, signature if name == body else known) for name, known in self.bodies]
        return House(self.hall, bodies, self.routines)

    def with_rows(self, name, rows):
        """The house in which the routine of this name has these rows."""
        self.routine_of(name)
        parts = [(one.name, one.names, rows if one.name == name else one.rows) for one in self.routines]
        _check(house_lines(self.hall, self.bodies, parts))
        routines = [Routine(known, names, held) for known, names, held in parts]
        return House(self.hall, self.bodies, routines)
