"""Makers of guards, and the rows at which guards end ([21], [22])."""

from handsroom.deeds import guard_name
from handsroom.errors import NoRow
from handsroom.plain import is_index
from handsroom.routines import blocks, each_deed, part_ends


class Maker:
    """A deed that makes a guard."""

    def __init__(self, tag, fate, row, deed, locks, end_row):
        self.tag = tag
        self.fate = fate
        self.row = row
        self.deed = deed
        self.locks = locks
        self.end_row = end_row


def _maker(house, deed, row, index, word, ends):
    """The maker of a deed in a row with this word; ends has the end rows by fate."""
    guard = guard_name(deed)
    fate = "named" if guard != "" else "head" if word == "with" else "loose"
    tag = guard if guard != "" else f"{row}.{index}"
    locks = (deed[1],) if deed[0] == "take" else house.signature_of(deed[1]).gives
    return Maker(tag, fate, row, index, locks, ends[fate])


def makers(house, name):
    """The makers of the routine of this name, in order."""
    routine = house.routine_of(name)
    closes = {opening: closing for opening, _, closing in blocks(routine)}
    parts = part_ends(routine)
    found = []
    for row, index, deed in each_deed(routine):
        if house.makes_guard(deed):
            ends = {"named": parts[row], "head": closes.get(row, row), "loose": row}
            found.append(_maker(house, deed, row, index, routine.rows[row].word, ends))
    return tuple(found)


def given_guard(routine):
    """The guard name of the give row, "" if there is none."""
    if len(routine.rows) > 0 and routine.rows[-1].word == "give":
        return routine.rows[-1].guard
    return ""


def ending_tags(routine, found, row):
    """The tags of the makers found that end at a row, in the order of [22]."""
    given = given_guard(routine)
    latest = [maker for maker in found[::-1] if maker.end_row == row and maker.tag != given]
    tags = [maker.tag for maker in latest if maker.fate == "named"]
    return tuple(tags + [maker.tag for maker in latest if maker.fate != "named"])


def ended_at(house, name, row):
    """The tags of the guards that end at an end row, in the order of [22]."""
    routine = house.routine_of(name)
    if not is_index(row, len(routine.rows) + 1):
        raise NoRow(row)
    return ending_tags(routine, makers(house, name), row)
