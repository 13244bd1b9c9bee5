"""Which unnamed guards to name ([81] to [83])."""

from handsroom.bareness import find_bare
from handsroom.changing import deed_at, naming
from handsroom.deeds import guard_name
from handsroom.errors import BadPlace, TooLarge
from handsroom.guards import makers
from handsroom.routines import part_ends
from handsroom.twohands import find_stale_woven

_MOST_PLACES = 6


def unnamed_places(house):
    """The places of all unnamed makers, in order."""
    found = []
    for routine in house.routines:
        unnamed = [maker for maker in makers(house, routine.name) if maker.fate != "named"]
        found.extend([(routine.name, maker.row, maker.deed) for maker in unnamed])
    return tuple(found)


def cover(house, place):
    """The rows, ascending, over which the guard of an unnamed maker would live longer with a name."""
    deed = deed_at(house, place)
    if deed is None or not house.makes_guard(deed) or guard_name(deed) != "":
        raise BadPlace(place)
    name, row, index = place
    maker = [one for one in makers(house, name) if (one.row, one.deed) == (row, index)][0]
    return tuple(range(maker.end_row + 1, part_ends(house.routine_of(name))[row]))


def mends(house, lot, *, bare=True, stale=True):
    """True if no weaving of the named house of the lot has the faults that are asked for."""
    named_house = naming(house, lot)
    if bare and find_bare(named_house) is not None:
        return False
    return not stale or find_stale_woven(named_house) is None


def _needed(house, places, bare, stale):
    """The places that each lot which mends contains."""
    found = []
    for place in places:
        others = [other for other in places if other != place]
        if not mends(house, others, bare=bare, stale=stale):
            found.append(place)
    return found


def _lots_of(places, size):
    """All lots of so many places, those with the earlier place first where two first differ."""
    lots = [()]
    for _ in range(size):
        lots = [lot + (at,) for lot in lots for at in range(len(places)) if len(lot) == 0 or at > lot[-1]]
    return [tuple([places[at] for at in lot]) for lot in lots]


def _contains(lot, other):
    return all([place in lot for place in other])


def least_lots(house, *, bare=True, stale=True):
    """All least lots that mend the house, in order."""
    places = unnamed_places(house)
    if len(places) > _MOST_PLACES:
        raise TooLarge("places")
    # A lot that contains one that mends does, too, so all places together mend if any lot does.
    if not mends(house, places, bare=bare, stale=stale):
        return ()
    needed = _needed(house, places, bare, stale)
    found = []
    for size in range(len(needed), len(places) + 1):
        for lot in _lots_of(places, size):
            new = _contains(lot, needed) and not any([_contains(lot, other) for other in found])
            if new and mends(house, lot, bare=bare, stale=stale):
                found.append(lot)
    return tuple(found)
