"""Reads that can be replaced, and the rewritten house ([96], [97])."""

from handsroom.changing import keeping
from handsroom.tails import early_house
from handsroom.twohands import spared_for_all
from handsroom.verdicts import bare_places


def replaceable(house):
    """The places of the reads that can become keeps without hiding a fault, in order."""
    bare = bare_places(house)
    return tuple([place for place in spared_for_all(house) if place not in bare])


def rewritten(house):
    """The early house of the house in which all replaceable reads are keeps."""
    return early_house(keeping(house, replaceable(house)))
