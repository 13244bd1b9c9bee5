"""Weaving stands together ([67], [68])."""

from handsroom.errors import Clash, Unnested
from handsroom.holds import final_takings, taken_since
from handsroom.nesting import breach_of
from handsroom.orders import least_order, shortest_lock_cycle


def comes_before(stands):
    """The pairs (y, x) of locks of lock stacks for which y comes before x, each once."""
    stacked = [lock for stand in stands for lock in stand.lock_stack]
    found = {}
    for stand in stands:
        for lock, later in taken_since(stand):
            for other in later:
                if other in stacked:
                    found[(lock, other)] = True
    return tuple(list(found))


def _doubled(house, stands):
    """The first lock of the house in the lock stacks of two stands as a tuple of one, () if there is none."""
    for lock in house.locks:
        if len([stand for stand in stands if lock in stand.lock_stack]) > 1:
            return (lock,)
    return ()


def clash_of(house, stands):
    """Why stands cannot be woven together: a lock of two of them, or a lock cycle; () if they can."""
    doubled = _doubled(house, stands)
    return doubled if len(doubled) > 0 else shortest_lock_cycle(house.locks, comes_before(stands))


def _parts_of(stand):
    """The moves ahead of the first final taking, and a dict with those from each final taking on, by lock."""
    takings = final_takings(stand)
    starts = [final for _, final in takings]
    ends = starts[1:] + [len(stand.moves)]
    first = starts[0] if len(starts) > 0 else len(stand.moves)
    later = {lock: stand.moves[final:ends[at]] for at, (lock, final) in enumerate(takings)}
    return stand.moves[:first], later


def check_nested(house):
    """Raises Unnested if the house does not nest."""
    breach = breach_of(house)
    if breach is not None:
        routine, nodes = breach
        raise Unnested(routine, nodes)


def weave(house, stands):
    """The turns of a weaving that weaves the stands together."""
    check_nested(house)
    cycle = clash_of(house, stands)
    if len(cycle) > 0:
        raise Clash(cycle)
    parts = [_parts_of(stand) for stand in stands]
    turns = [(hand, move) for hand, (first, _) in enumerate(parts) for move in first]
    # Ahead of its first final taking each hand holds nothing, and between them only locks of its stack.
    for lock in least_order(house.locks, comes_before(stands)):
        for hand, (_, later) in enumerate(parts):
            turns.extend([(hand, move) for move in later.get(lock, ())])
    return tuple(turns)
