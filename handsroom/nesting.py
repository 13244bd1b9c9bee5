"""Whether guards end in the reverse order of their making ([28])."""

from handsroom.lonetable import LoneTable
from handsroom.spreading import Spread


def _guards_behind(table, node):
    """The pair (tag, guards behind its guard) for the guard that the step of a node ends, None if it ends none."""
    number, guards = node
    step = table.spread.points[number].step
    if step[0] not in ("drop", "stop"):
        return None
    for at, (tag, _) in enumerate(guards):
        if tag == step[1]:
            return tag, guards[at + 1:]
    return None


def _crossings_at(table, node):
    ended = _guards_behind(table, node)
    if ended is None:
        return ()
    tag, later = ended
    return tuple([(tag, other) for other, _ in later])


def first_breach(table):
    """The first node of a lone table that breaks the nesting, None if the routine nests."""
    for node in table.nodes:
        if len(_crossings_at(table, node)) > 0:
            return node
    return None


def crossings(table):
    """The crossings of the routine of a lone table, in the order in which nodes show them."""
    found = {pair: True for node in table.nodes for pair in _crossings_at(table, node)}
    return tuple(list(found))


def nests(house, name):
    """True if the routine of this name nests."""
    return first_breach(LoneTable(Spread(house, name))) is None


def house_nests(house):
    """True if all routines of the house nest."""
    return all([nests(house, routine.name) for routine in house.routines])


def breach_of(house):
    """The pair (name, path of its lone table to its first breach) of the first routine that does not nest, or None."""
    for routine in house.routines:
        table = LoneTable(Spread(house, routine.name))
        breach = first_breach(table)
        if breach is not None:
            return routine.name, table.path_to(breach)
    return None
