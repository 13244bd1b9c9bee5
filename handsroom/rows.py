"""Rows of a routine ([12])."""

from handsroom.deeds import deed_text, guard_name, is_deed, read_deed
from handsroom.errors import BadPart
from handsroom.words import is_name

_DEED_WORDS = ("do", "with")
_GUARD_WORDS = ("drop", "give")
_OPENING_WORDS = ("with", "block", "either", "repeat")
_BARE_WORDS = ("block", "either", "or", "repeat", "close")


def _is_row(word, deeds, guard):
    if word in _DEED_WORDS:
        return guard == "" and len(deeds) > 0 and all([is_deed(deed) for deed in deeds])
    if word in _GUARD_WORDS:
        return len(deeds) == 0 and is_name(guard)
    return word in _BARE_WORDS and len(deeds) == 0 and guard == ""


class Row:
    """A row: a word, and by its word deeds or a guard name."""

    def __init__(self, word, *deeds, guard=""):
        if not _is_row(word, deeds, guard):
            raise BadPart("form")
        self.word = word
        self.deeds = deeds
        self.guard = guard
        self.guards = tuple([guard_name(deed) for deed in deeds if guard_name(deed) != ""])
        self.opens = word in _OPENING_WORDS

    @staticmethod
    def read(text):
        """The row with this text."""
        return read_row(text)

    def __eq__(self, other):
        if not isinstance(other, Row):
            return False
        return self.word == other.word and self.deeds == other.deeds and self.guard == other.guard

    def text(self):
        """The text of the row."""
        if self.guard != "":
            return self.word + " " + self.guard
        if len(self.deeds) == 0:
            return self.word
        return self.word + " " + ", ".join([deed_text(deed) for deed in self.deeds])


def read_row(text):
    """The row with this text."""
    word, _, rest = text.partition(" ")
    if word in _DEED_WORDS:
        deeds = [read_deed(part) for part in rest.split(", ")]
        return Row(word, *deeds)
    if word in _GUARD_WORDS:
        return Row(word, guard=rest)
    return Row(text)
