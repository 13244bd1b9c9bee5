"""Chains of requests ([63])."""

from handsroom.requests import proper_requests


def closes(chain):
    """True if the chain wants a lock of its union."""
    union, wanted = chain
    return wanted in union


def joined_chain(locks, chain, request):
    """The chain that follows from a chain by a proper request, None if none does."""
    union, wanted = chain
    held, lock = request
    if closes(chain) or wanted not in held or any([one in union for one in held]):
        return None
    return tuple([one for one in locks if one in union or one in held]), lock


def chains_of(requests):
    """All chains of a table, in order."""
    locks = requests.locks
    rows = proper_requests(requests)
    found = list(rows)
    at = 0
    while at < len(found):
        for row in rows:
            chain = joined_chain(locks, found[at], row)
            if chain is not None and chain not in found:
                found.append(chain)
        at += 1
    placed = [(tuple([locks.index(one) for one in union]), locks.index(wanted)) for union, wanted in found]
    return tuple([(tuple([locks[k] for k in union]), locks[wanted]) for union, wanted in sorted(placed)])
