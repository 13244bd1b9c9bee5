"""The signature that a routine earns when it stands for a body ([90])."""

from handsroom.fitting import fit_table
from handsroom.records import routine_in
from handsroom.signatures import Signature
from handsroom.uses import uses_at


def signature_from(table):
    """The signature that the routine of a table of tags earns, if it is fit."""
    routine = routine_in(table.spread)
    marks = {}
    for spot in table.spots:
        for mark, _ in uses_at(table, spot):
            marks[mark] = True
        for position in table.shared_positions(spot):
            marks[("shares", position)] = True
    places = [routine.kind_of(name) for name in table.arguments]
    found = list(marks)
    return Signature(table.spread.house.hall, *places, marks=found)


def earned(house, name, arguments):
    """The signature that a routine earns with some of its names as arguments."""
    return signature_from(fit_table(house, name, arguments))
