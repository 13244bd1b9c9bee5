"""Which signatures a missing body may have ([88])."""

from handsroom.errors import TooLarge, Unlike
from handsroom.signatures import Signature, needed_marks
from handsroom.verdicts import judged_right

_MOST_MARKS = 8


def _is_right_with(house, body, signature):
    return judged_right(house.with_signature(body, signature))


def _least_with(upto, mark):
    """The least signatures within one that have a mark of it."""
    cores = [[mark, ("gives", lock)] for lock in upto.gives] if upto.is_giving else [[mark]]
    found = []
    for core in cores:
        marks = core + [need for one in core for need in needed_marks(upto.hall, upto.places, one)]
        found.append(Signature(upto.hall, *upto.places, marks=marks))
    return found


def _without(signature, mark):
    """The widest signatures, one or none, within one that lack a mark of it."""
    try:
        return [signature - mark]
    except Unlike:
        return []


def _hopeful(house, body, upto):
    """The widest signatures, one or none, within one that lack each mark with which the house is never right."""
    found = [upto]
    for mark in upto.marks:
        if not any([_is_right_with(house, body, one) for one in _least_with(upto, mark)]):
            found = [left for one in found for left in (_without(one, mark) if mark in one else [one])]
    return found


def _right_below(house, body, first):
    """Signatures within some with which the house is right, among them all the widest ones."""
    pending = list(first)
    seen = {}
    found = []
    at = 0
    while at < len(pending):
        signature = pending[at]
        at += 1
        if signature.marks in seen or any([signature.within(one) for one in found]):
            continue
        seen[signature.marks] = True
        if _is_right_with(house, body, signature):
            found.append(signature)
        else:
            pending.extend([less for mark in signature.marks for less in _without(signature, mark)])
    return found


def widest(house, body, upto):
    """The widest signatures within one with which the house is right, in order."""
    if not upto.alike(house.signature_of(body)):
        raise Unlike()
    if len(upto) > _MOST_MARKS:
        raise TooLarge("marks")
    right = _right_below(house, body, _hopeful(house, body, upto))
    found = [one for one in right if not any([one != other and one.within(other) for other in right])]
    return tuple(sorted(found, key=lambda one: [mark not in one for mark in upto.marks]))
