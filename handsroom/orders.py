"""Lock pairs, lock cycles and lock orders ([64])."""

from handsroom.errors import NoLockOrder
from handsroom.requests import proper_requests


def lock_pairs(requests):
    """The pairs (lock, wanted) of a table, each once."""
    pairs = {(lock, wanted): True for held, wanted in proper_requests(requests) for lock in held}
    return tuple(list(pairs))


def _cycle_from(locks, pairs):
    """The shortest lock cycle over these locks that begins with the first one, () if there is none."""
    paths = [locks[:1]]
    reached = list(locks[:1])
    at = 0
    while at < len(paths):
        path = paths[at]
        if (path[-1], locks[0]) in pairs:
            return path
        for lock in locks:
            # Paths come in the order of their positions, so the first one to a lock is the least.
            if lock not in reached and (path[-1], lock) in pairs:
                reached.append(lock)
                paths.append(path + (lock,))
        at += 1
    return ()


def shortest_lock_cycle(locks, pairs):
    """The shortest lock cycle of some pairs, () if there is none."""
    ordered = tuple(locks)
    cycles = [_cycle_from(ordered[at:], pairs) for at in range(len(ordered))]
    found = [cycle for cycle in cycles if len(cycle) > 0]
    return min(found, key=len) if len(found) > 0 else ()


def least_order(locks, pairs):
    """The least order of locks in which the first lock of each pair comes ahead; the pairs have no lock cycle."""
    order = []
    while len(order) < len(locks):
        left = [lock for lock in locks if lock not in order]
        free = [lock for lock in left if not any([(other, lock) in pairs for other in left])]
        order.append(free[0])
    return tuple(order)


def lock_order(requests):
    """The least order of a table."""
    pairs = lock_pairs(requests)
    cycle = shortest_lock_cycle(requests.locks, pairs)
    if len(cycle) > 0:
        raise NoLockOrder(cycle)
    return least_order(requests.locks, pairs)
