"""The table of a house: which locks its hands want while they hold others ([65], [66])."""

from handsroom.answers import wishes
from handsroom.lonetable import LoneTable, locks_of
from handsroom.plain import in_order
from handsroom.requests import Requests
from handsroom.spreading import Spread
from handsroom.stands import Stand


def requests_at(spread, node):
    """A pair (own stack or None, request) for each lock that a hand at a node can want, in order."""
    house = spread.house
    held = locks_of(node[1])
    step = spread.points[node[0]].step
    if step[0] == "take":
        return ((None, (in_order(house.locks, held), step[1])),)
    if step[0] != "call":
        return ()
    known = wishes(house.signature_of(step[1]))
    free = [(stack, lock) for stack, lock in known if not any([one in held for one in stack])]
    return tuple([(stack, (in_order(house.locks, held + stack), lock)) for stack, lock in free])


def _needs_of(house):
    """A tuple (lone table, node, own stack or None, request) for each request of each node, in order."""
    found = []
    for routine in house.routines:
        table = LoneTable(Spread(house, routine.name))
        for node in table.nodes:
            found.extend([(table, node, stack, request) for stack, request in requests_at(table.spread, node)])
    return found


def requests_of(house):
    """The table of the house."""
    rows = [(held, wanted, table.distance_to(node)) for table, node, _, (held, wanted) in _needs_of(house)]
    return Requests(house.locks, rows)


def stand_for(house, request):
    """A stand that holds and wants what a request of the table says, of exactly its length."""
    length = requests_of(house)[request]
    fitting = [need for need in _needs_of(house) if need[3] == request]
    table, node, stack, _ = [need for need in fitting if need[0].distance_to(need[1]) == length][0]
    wanted = None if stack is None else request[1]
    return Stand(house, table.spread.name, table.path_to(node), stack=stack, wanted=wanted)
