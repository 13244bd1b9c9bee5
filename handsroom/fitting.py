"""Whether a routine can stand for a body ([90])."""

from handsroom.changing import alone
from handsroom.errors import NoSuch, NotFit, TooLarge
from handsroom.guards import given_guard
from handsroom.needs import requests_of
from handsroom.nesting import nests
from handsroom.plain import is_integer
from handsroom.records import routine_in
from handsroom.requests import self_requests
from handsroom.spreading import Spread
from handsroom.tables import RoomTable
from handsroom.tagging import TagTable
from handsroom.tails import is_quiet
from handsroom.touches import bare_names

_MOST_PLACES = 3
_ENDING_WORDS = ("drop", "stop")


def _touches_well(table):
    """True if each name whose touch is bare has a position as its tag."""
    for spot in table.spots:
        for name in bare_names(table.spread, spot.node, spot.record):
            if not is_integer(table.tag_of(spot.record, name)):
                return False
    return True


def _spots_behind(table, spots):
    """The numbers of the spots that come behind some spots, in the order in which they are found."""
    found = []
    pending = list(spots)
    while len(pending) > 0:
        spot = pending.pop()
        for number in spot.nexts:
            if number not in found:
                found.append(number)
                pending.append(table.spots[number])
    return found


def _shares_well(table):
    """True if behind a spot that shares an argument come only drops, the stop and quiet points."""
    rooms = RoomTable(table.spread)
    sharing = [spot for spot in table.spots if len(table.shared_positions(spot)) > 0]
    later = [table.spots[number] for number in _spots_behind(table, sharing)]
    others = [spot for spot in later if table.step_of_spot(spot)[0] not in _ENDING_WORDS]
    return all([is_quiet(rooms, spot.node[0]) for spot in others])


def _gives_well(table):
    """True if the guard of a give row is there at each spot of the stop."""
    given = given_guard(routine_in(table.spread))
    stops = table.spots_at(table.spread.stop_point)
    return given == "" or all([given in [tag for tag, _ in spot.node[1]] for spot in stops])


def _broken_rule(table):
    """The first rule that the routine breaks, "" if it is fit."""
    house, name = table.spread.house, table.spread.name
    if not nests(house, name):
        return "nest"
    if len(self_requests(requests_of(alone(house, [name])))) > 0:
        return "self"
    if not _touches_well(table):
        return "touch"
    if not _shares_well(table):
        return "share"
    return "" if _gives_well(table) else "give"


def _check_arguments(routine, arguments):
    names = [name for name, _ in routine.names]
    for argument in arguments:
        if argument not in names or len([other for other in arguments if other == argument]) > 1:
            raise NoSuch(argument)
    if len(arguments) > _MOST_PLACES:
        raise TooLarge("places")


def fit_table(house, name, arguments):
    """The table of tags of a routine that can stand for a body."""
    _check_arguments(house.routine_of(name), arguments)
    table = TagTable(Spread(house, name), arguments)
    rule = _broken_rule(table)
    if rule:
        raise NotFit(rule)
    return table
