"""Two houses that tell two signatures apart ([89])."""

from handsroom.errors import TooLarge, Unlike
from handsroom.houses import House
from handsroom.kinds import Hall
from handsroom.routines import Routine
from handsroom.rows import Row
from handsroom.signatures import Signature

_MOST_LOCKS = 3


def _free_names(hall):
    """The names of the new lock, the body and the two routines."""
    taken = list(hall.locks + hall.kinds)
    found = []
    for letter in ("z", "b", "r", "s"):
        name = letter
        number = 0
        while name in taken:
            name = f"{letter}{number}"
            number += 1
        taken.append(name)
        found.append(name)
    return found


class Plan:
    """What the rows of parting houses are made of; call is the deed that calls the body."""

    def __init__(self, hall, places):
        self.hall = hall
        self.lock, self.body, self.first, self.second = _free_names(hall)
        self.places = places
        self.names = tuple([f"p{at}" for at in range(len(places))])
        self.call = ("call", self.body, self.names)

    def under_lock(self, ahead, deeds):
        """A block under the new lock: behind its take the deeds ahead, then a row for each of the others."""
        opening = [("take", self.lock)] + ahead
        return [Row("with", *opening)] + [Row("do", deed) for deed in deeds] + [Row("close")]

    def first_routine(self, more, rows):
        """The first routine; more are its further names with their kinds."""
        made = [("make", name) for name in self.names]
        ahead = [Row("do", *made)] if len(made) > 0 else []
        names = [(name, self.places[at]) for at, name in enumerate(self.names)]
        return Routine(self.first, names + more, ahead + rows)


def _for_takes(plan, lock):
    return [plan.first_routine([], plan.under_lock([("take", lock)], [plan.call]))]


def _for_under(plan, held, lock):
    other = [Row("with", ("take", lock)), Row("do", ("take", held)), Row("close")]
    return [plan.first_routine([], plan.under_lock([], [plan.call])), Routine(plan.second, [], other)]


def _for_writes(plan, kind, field):
    if kind in plan.places:
        keep = ("keep", plan.names[plan.places.index(kind)], field)
        return [plan.first_routine([], plan.under_lock([], [plan.call, keep]))]
    guard = plan.hall.guard_of(kind)
    reading = [("read", "x", field)] if guard is None else [("take", guard), ("read", "x", field)]
    rows = plan.under_lock([], [plan.call, ("keep", "x", field)])
    return [plan.first_routine([("x", kind)], rows[:1] + [Row("do", *reading)] + rows[1:])]


def _for_gives(plan, lock):
    return [plan.first_routine([], plan.under_lock([], [plan.call + ("as", "q"), ("take", lock)]))]


def _for_shares(plan, at):
    kind, name = plan.places[at], plan.names[at]
    field = plan.hall.fields_of(kind)[0]
    deeds = [plan.call, ("write", name, field)]
    if plan.hall.guard_of(kind) is not None:
        return [plan.first_routine([], plan.under_lock([], deeds))]
    other = Routine(plan.second, [("y", kind)], [Row("do", ("fetch", "y"), ("write", "y", field))])
    return [plan.first_routine([], plan.under_lock([], deeds + [("keep", name, field)])), other]


def _routines_for(plan, mark):
    """The routines of both houses, by the first mark that tells the signatures apart."""
    if mark[0] == "takes":
        return _for_takes(plan, mark[1])
    if mark[0] == "under":
        return _for_under(plan, mark[1], mark[2])
    if mark[0] == "writes":
        return _for_writes(plan, mark[1], mark[2])
    return _for_gives(plan, mark[1]) if mark[0] == "gives" else _for_shares(plan, mark[1])


def parting_houses(first, second):
    """A house that is right with the second signature and one that is not right with the first one.

    None if the first signature is within the second one.
    """
    if not first.alike(second):
        raise Unlike()
    missing = [mark for mark in first.marks if mark not in second]
    if len(missing) == 0:
        return None
    if len(first.hall.locks) > _MOST_LOCKS:
        raise TooLarge("locks")
    plan = Plan(first.hall, first.places)
    routines = _routines_for(plan, missing[0])
    known = first.hall
    hall = Hall(known.locks + (plan.lock,), *known.descriptions)
    houses = []
    for signature in (second, first):
        told = Signature(hall, *signature.places, marks=signature.marks)
        houses.append(House(hall, [(plan.body, told)], routines))
    return tuple(houses)
