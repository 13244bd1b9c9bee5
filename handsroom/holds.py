"""When a stand takes the locks that it holds at its end for the last time ([67])."""

from handsroom.plain import in_order


def final_takings(stand):
    """A pair (lock, index of its last taking) for each lock of the lock stack, in its order."""
    last = {lock: index for index, lock in stand.takings}
    return tuple([(lock, last[lock]) for lock in stand.lock_stack])


def taken_since(stand):
    """A pair (lock, the locks taken since it) for each lock of the lock stack, in its order."""
    found = []
    for lock, final in final_takings(stand):
        later = [other for index, other in stand.takings if index > final]
        found.append((lock, in_order(stand.house.locks, later)))
    return tuple(found)
