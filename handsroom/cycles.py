"""Request cycles ([62])."""

from handsroom.requests import proper_requests


def _is_apart(held, cycle):
    """True if no lock of held is in a held set of the requests."""
    return not any([lock in other for other, _ in cycle for lock in held])


def _longer(rows, beginnings):
    """The sequences that are one request longer; each request comes behind the first one in the order."""
    found = []
    for cycle in beginnings:
        first = rows.index(cycle[0])
        wanted = cycle[-1][1]
        later = [row for row in rows[first + 1:] if wanted in row[0] and _is_apart(row[0], cycle)]
        found.extend([cycle + (row,) for row in later])
    return found


def _cycles(requests, hands):
    rows = proper_requests(requests)
    # No lock is in two held sets, so there are not more requests than locks.
    if hands < 2 or hands > len(requests.locks):
        return []
    beginnings = [(row,) for row in rows]
    for _ in range(hands - 1):
        beginnings = _longer(rows, beginnings)
    return [cycle for cycle in beginnings if cycle[-1][1] in cycle[0][0]]


def request_cycles(requests, *, hands):
    """Yields the request cycles of exactly so many requests, in order."""
    for cycle in _cycles(requests, hands):
        yield cycle


def total_length(requests, cycle):
    """The sum of the lengths of some requests."""
    return sum([requests[request] for request in cycle])


def least_cycle_within(requests, locks):
    """The least request cycle whose held sets contain only these locks, () if there is none."""
    for hands in range(2, len(requests.locks) + 1):
        found = [cycle for cycle in _cycles(requests, hands) if _is_within(cycle, locks)]
        if len(found) > 0:
            # Of several the first one has the least total: min keeps to the order.
            return min(found, key=lambda one: total_length(requests, one))
    return ()


def _is_within(cycle, locks):
    return all([lock in locks for held, _ in cycle for lock in held])


def least_cycle(requests):
    """The least request cycle, () if there is none."""
    return least_cycle_within(requests, requests.locks)
