"""Hands: what one hand is at, holds and knows at one moment ([52])."""

from handsroom.errors import NoSuch
from handsroom.lonetable import locks_of


class Hand:
    """The state of a hand; it never changes.

    leads has a pair (name, object) for each object name, sheets a pair (names, numbers) for each
    sheet, with the names that have this sheet in common.
    """

    def __init__(self, routine, point, guards, stack, wanted, leads, sheets):
        self.routine = routine
        self.point = point
        self.guards = guards
        self.stack = stack
        self.wanted = wanted
        self.held = locks_of(guards) + (() if stack is None else stack)
        self.over = point is None
        self._leads = leads
        self._sheets = sheets

    def leads_to(self, name):
        """The object to which an object name leads."""
        for known, number in self._leads:
            if known == name:
                return number
        raise NoSuch(name)

    def sheet_of(self, name):
        """The sheet of an object name, a number or None for each field."""
        for names, numbers in self._sheets:
            if name in names:
                return numbers
        raise NoSuch(name)

    def at_point(self, point, guards):
        """The hand outside of calls at a point with these guards."""
        return Hand(self.routine, point, guards, None, None, self._leads, self._sheets)

    def inside(self, stack, wanted):
        """The hand inside its call with an own stack and a wanted lock or None."""
        return Hand(self.routine, self.point, self.guards, stack, wanted, self._leads, self._sheets)

    def _reading(self, leads, sheets):
        return Hand(self.routine, self.point, self.guards, self.stack, self.wanted, tuple(leads), tuple(sheets))

    def _leads_with(self, name, number):
        return [(known, number if known == name else old) for known, old in self._leads]

    def _sheets_without(self, name):
        sheets = [(tuple([known for known in names if known != name]), numbers) for names, numbers in self._sheets]
        return [(names, numbers) for names, numbers in sheets if len(names) > 0]

    def led(self, name, number, sheet):
        """The hand whose name leads to an object and has a new sheet of its own."""
        return self._reading(self._leads_with(name, number), self._sheets_without(name) + [((name,), sheet)])

    def copied(self, name, other):
        """The hand whose name leads to the object of another name and has its sheet."""
        if name == other:
            return self
        sheets = [(names + (name,) if other in names else names, row) for names, row in self._sheets_without(name)]
        return self._reading(self._leads_with(name, self.leads_to(other)), sheets)

    def noted(self, name, at, worth):
        """The hand with a number put on the sheet of a name at the index of a field."""
        sheets = []
        for names, row in self._sheets:
            sheets.append((names, row[:at] + (worth,) + row[at + 1:] if name in names else row))
        return self._reading(self._leads, sheets)


def started_hand(house, routine, objects):
    """A hand that starts a routine with these objects for its names."""
    names = house.routine_of(routine).names
    leads = tuple([(name, objects[at]) for at, (name, _) in enumerate(names)])
    sheets = tuple([((name,), tuple([None for _ in house.fields_of(kind)])) for name, kind in names])
    return Hand(routine, 0, (), None, None, leads, sheets)
