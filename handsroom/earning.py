"""The signature that a routine earns when it stands for a body ([90])."""

from handsroom.fitting import fit_table
from handsroom.records import routine_in
from handsroom.signatures import Signature
from handsroom.uses import uses_at


def earned(house, name, arguments):
    """The signature that a routine earns with some of its names as arguments."""
    table = fit_table(house, name, arguments)
    marks = {}
    for spot in table.spots:
        for mark, _ in uses_at(table, spot):
            marks[mark] = True
        for position in table.shared_positions(spot):
            marks[("shares", position)] = True
    routine = routine_in(table.spread)
    places = [routine.kind_of(argument) for argument in table.arguments]
    found = list(marks)
    return Signature(house.hall, *places, marks=found)
