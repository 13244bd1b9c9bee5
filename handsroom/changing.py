"""Houses that are made from a house by changes of its text ([20])."""

from handsroom.deeds import guard_name, named
from handsroom.errors import BadPlace, NoSuch
from handsroom.guards import given_guard
from handsroom.houses import House
from handsroom.plain import is_index
from handsroom.routines import Routine
from handsroom.rows import Row


def deed_at(house, place):
    """The deed at a place, None if the value, any value, is not the place of a deed."""
    if not isinstance(place, tuple) or len(place) != 3:
        return None
    name, number, index = place
    for routine in house.routines:
        if routine.name == name and is_index(number, len(routine.rows)):
            deeds = routine.rows[number].deeds
            return deeds[index] if is_index(index, len(deeds)) else None
    return None


def _row_with(row, name, number, deeds):
    if len(row.deeds) == 0:
        return row
    changed = [deeds.get((name, number, index), deed) for index, deed in enumerate(row.deeds)]
    return Row(row.word, *changed)


def _rows_with(routine, deeds):
    """The rows of a routine with the deeds of a dict at its places."""
    return [_row_with(row, routine.name, number, deeds) for number, row in enumerate(routine.rows)]


def _house_with(house, rows):
    """The house whose routines have the rows of a dict, by name."""
    routines = [Routine(one.name, one.names, rows[one.name]) for one in house.routines]
    return House(house.hall, house.bodies, routines)


def keeping(house, places):
    """The house in which the reads at the places are keeps."""
    deeds = {}
    for place in places:
        deed = deed_at(house, place)
        if deed is None or deed[0] != "read":
            raise BadPlace(place)
        deeds[place] = ("keep",) + deed[1:]
    return _house_with(house, {routine.name: _rows_with(routine, deeds) for routine in house.routines})


def _named_makers(routine, places):
    """The makers at the places of this routine with their new guard names, by place."""
    taken = [name for name, _ in routine.names] + [guard for row in routine.rows for guard in row.guards]
    deeds = {}
    number = 0
    for name, row, index in sorted(places):
        if name == routine.name:
            while f"n{number}" in taken:
                number += 1
            deeds[(name, row, index)] = named(routine.rows[row].deeds[index], f"n{number}")
            number += 1
    return deeds


def naming(house, places):
    """The house in which the unnamed makers at the places have guard names."""
    chosen = {}
    for place in places:
        deed = deed_at(house, place)
        if deed is None or not house.makes_guard(deed) or guard_name(deed) != "":
            raise BadPlace(place)
        chosen[place] = True
    rows = {}
    for routine in house.routines:
        rows[routine.name] = _rows_with(routine, _named_makers(routine, list(chosen)))
    return _house_with(house, rows)


def leaving_out(house, places):
    """The house in which the takes at the places, and the drops of their guards, are skips."""
    deeds = {}
    dropped = {}
    for place in places:
        deed = deed_at(house, place)
        if deed is None or deed[0] != "take":
            raise BadPlace(place)
        guard = guard_name(deed)
        if guard != "" and guard == given_guard(house.routine_of(place[0])):
            raise BadPlace(place)
        deeds[place] = ("skip",)
        dropped[(place[0], guard)] = True
    rows = {}
    for routine in house.routines:
        name = routine.name
        kept = _rows_with(routine, deeds)
        rows[name] = [Row("do", ("skip",)) if _drops(row, name, dropped) else row for row in kept]
    return _house_with(house, rows)


def _drops(row, name, dropped):
    return row.word == "drop" and (name, row.guard) in dropped


def ending(house, name, number, guard):
    """The house with a row that drops the guard ahead of a row of a routine."""
    rows = house.routine_of(name).rows
    if not is_index(number, len(rows) + 1):
        raise BadPlace((name, number))
    drop = Row("drop", guard=guard)
    return house.with_rows(name, rows[:number] + (drop,) + rows[number:])


def alone(house, names):
    """The house with the routines of these names only."""
    known = [routine.name for routine in house.routines]
    for name in names:
        if name not in known:
            raise NoSuch(name)
    return House(house.hall, house.bodies, [routine for routine in house.routines if routine.name in names])
