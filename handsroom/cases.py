"""Lists of inside moves that use the marks which a routine earns ([90])."""

from handsroom.answers import Setting
from handsroom.fitting import fit_table
from handsroom.records import routine_in
from handsroom.scenes import given_lock
from handsroom.uses import change_by_write, uses_at


def _setting_for(table):
    house = table.spread.house
    routine = routine_in(table.spread)
    objects = [(routine.kind_of(name), False) for name in table.arguments] + [(kind, True) for kind in house.kinds]
    passed = tuple(range(len(table.arguments)))
    return Setting(house.hall, objects, *passed)


def _moves_between(table, spot, following):
    """The inside moves of the step of a spot that leads to a following spot; a body does no more than it must."""
    step = table.step_of_spot(spot)
    lock = given_lock(spot.node, following.node)
    if lock is not None:
        return (("want", lock), ("take",))
    if step[0] == "drop" and step[1] in [tag for tag, _ in spot.node[1]]:
        return (("back",),)
    return change_by_write(table, spot.record, step)


def _moves_to(table, spot):
    """The inside moves along the way to a spot."""
    moves = ()
    while spot.parent is not None:
        parent = table.spots[spot.parent]
        moves = _moves_between(table, parent, spot) + moves
        spot = parent
    return moves


def cases_of(house, name, arguments):
    """Cases that together use all marks which the routine earns, but for its shares marks."""
    table = fit_table(house, name, arguments)
    found = {}
    for spot in table.spots:
        for mark, moves in uses_at(table, spot):
            if mark not in found:
                found[mark] = _moves_to(table, spot) + moves
    lists = {moves: True for moves in found.values()}
    setting = _setting_for(table)
    return tuple([(setting, moves) for moves in list(lists)])
