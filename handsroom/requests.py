"""Requests: which locks are held where a lock is wanted ([61])."""

from handsroom.errors import NoRequest, NoSuch, Unlike


def _position(locks, lock):
    if lock not in locks:
        raise NoSuch(lock)
    return locks.index(lock)


def _placed(locks, held, wanted):
    """The pair of the positions of the held locks, ascending and each once, and of the wanted lock."""
    positions = [_position(locks, lock) for lock in held]
    once = [at for at in range(len(locks)) if at in positions]
    return tuple(once), _position(locks, wanted)


class Requests:
    """A table of requests, each with its least length."""

    def __init__(self, locks, rows):
        self.locks = tuple(locks)
        placed = [(_placed(self.locks, held, wanted), length) for held, wanted, length in rows]
        # The least length of a request comes last, so that it is the one that stays.
        lengths = {positions: length for positions, length in sorted(placed, reverse=True)}
        ordered = sorted(list(lengths))
        self._requests = tuple([(tuple([self.locks[at] for at in held]), self.locks[k]) for held, k in ordered])
        self._lengths = tuple([lengths[positions] for positions in ordered])

    def __len__(self):
        return len(self._requests)

    def __iter__(self):
        return iter(self._requests)

    def __contains__(self, request):
        return request in self._requests

    def __getitem__(self, request):
        if request not in self._requests:
            raise NoRequest(request)
        return self._lengths[self._requests.index(request)]

    def __or__(self, other):
        if self.locks != other.locks:
            raise Unlike()
        return Requests(self.locks, _rows_of(self) + _rows_of(other))

    def kept_to(self, locks):
        """The table kept to some locks, told in any order."""
        for lock in locks:
            if lock not in self.locks:
                raise NoSuch(lock)
        rows = []
        for held, wanted, length in _rows_of(self):
            if wanted in locks:
                rows.append(([lock for lock in held if lock in locks], wanted, length))
        return Requests([lock for lock in self.locks if lock in locks], rows)


def _rows_of(requests):
    return [(held, wanted, requests[(held, wanted)]) for held, wanted in requests]


def proper_requests(requests):
    """The requests that hold locks, but not the wanted one, in order."""
    return tuple([(held, wanted) for held, wanted in requests if len(held) > 0 and wanted not in held])


def self_requests(requests):
    """The requests that hold the wanted lock, in order."""
    return tuple([(held, wanted) for held, wanted in requests if wanted in held])
