"""A second reading of [61] to [64]: tables of requests as dicts of sets, and trying all sequences."""

import itertools


def key_of(locks, request):
    """What orders requests and chains: the positions of the first part, then that of the lock."""
    first, wanted = request
    return tuple(locks.index(lock) for lock in first), locks.index(wanted)


def ordered(locks, held):
    return tuple(lock for lock in locks if lock in set(held))


def lengths_of(locks, rows):
    """The least length of each request."""
    found = {}
    for held, wanted, length in rows:
        request = (ordered(locks, held), wanted)
        found[request] = min(length, found.get(request, length))
    return found


def proper(locks, lengths):
    return sorted((one for one in lengths if one[0] and one[1] not in one[0]), key=lambda one: key_of(locks, one))


def is_cycle(sequence):
    held = [lock for locks, _ in sequence for lock in locks]
    nexts = sequence[1:] + sequence[:1]
    return len(set(held)) == len(held) and all(wanted in other for (_, wanted), (other, _) in zip(sequence, nexts))


def cycles(locks, lengths, hands):
    """All request cycles of so many requests, by trying all sequences of proper requests."""
    rows = proper(locks, lengths)
    return [one for one in itertools.product(rows, repeat=hands)
            if len(one) > 1 and is_cycle(one) and one[0] == min(one, key=rows.index)]


def least(locks, lengths, within):
    for hands in range(2, len(locks) + 1):
        found = [one for one in cycles(locks, lengths, hands) if all(set(held) <= set(within) for held, _ in one)]
        if found:
            sums = [sum(lengths[request] for request in one) for one in found]
            return found[sums.index(min(sums))]
    return ()


def chains(locks, lengths):
    """All chains: sequences of proper requests with disjoint held sets, each of which holds what the one before wants."""
    rows = proper(locks, lengths)
    found = set()
    pending = [(row,) for row in rows]
    while pending:
        sequence = pending.pop()
        union = {lock for held, _ in sequence for lock in held}
        wanted = sequence[-1][1]
        found.add((ordered(locks, union), wanted))
        if wanted not in union:
            pending += [sequence + (row,) for row in rows if wanted in row[0] and not union & set(row[0])]
    return sorted(found, key=lambda one: key_of(locks, one))


def pairs(locks, lengths):
    found = []
    for held, wanted in proper(locks, lengths):
        found += [(lock, wanted) for lock in held if (lock, wanted) not in found]
    return found


def lock_cycles(locks, told):
    """All lock cycles, the shorter ones first, then those with the lesser positions."""
    found = []
    for many in range(2, len(locks) + 1):
        for one in itertools.permutations(locks, many):
            if one[0] == min(one, key=locks.index) and all(pair in told for pair in zip(one, one[1:] + one[:1])):
                found.append(one)
    return found


def orders(locks, told):
    """All orders, those with the lesser positions first."""
    return [one for one in itertools.permutations(locks)
            if all(one.index(lock) < one.index(wanted) for lock, wanted in told)]


def random_rows(rng, locks, most):
    """Rows of a table, some of them twice, with held locks in any order and sometimes twice."""
    rows = []
    for _ in range(rng.randint(0, most)):
        held = [rng.choice(locks) for _ in range(rng.choice((0, 1, 1, 1, 2, 2, 3)))]
        rows.append((rng.choice((tuple, list))(held), rng.choice(locks), rng.randint(0, 9)))
        if rng.random() < 0.2:
            again = held + held[:1]
            rng.shuffle(again)
            rows.append((again, rows[-1][1], rng.randint(0, 9)))
    return rows


def random_table(rng):
    """The pair (locks, rows) of a random table of two to four locks."""
    locks = list("abgz"[:rng.choice((2, 3, 3, 4))])
    rng.shuffle(locks)
    return tuple(locks), random_rows(rng, locks, 12)
