"""Signatures of bodies and their marks ([4] to [7])."""

from handsroom.errors import BadPart, NoSuch, Unlike
from handsroom.plain import is_integer
from handsroom.words import is_name

_MOST_PLACES = 3


def is_mark(value):
    """True if the value, any value, has the form of a mark."""
    if not isinstance(value, tuple) or len(value) not in (2, 3):
        return False
    word, parts = value[0], value[1:]
    if word == "shares":
        return len(parts) == 1 and is_integer(parts[0])
    if not all([is_name(part) for part in parts]):
        return False
    if word in ("takes", "gives"):
        return len(parts) == 1
    if word == "under":
        return len(parts) == 2 and parts[0] != parts[1]
    return word == "writes" and len(parts) == 2


def all_marks(hall, places):
    """The marks that a signature with these places can have, in order."""
    marks = [("takes", lock) for lock in hall.locks]
    marks = marks + [("under", held, lock) for held in hall.locks for lock in hall.locks if held != lock]
    marks = marks + [("writes", kind, field) for kind, field in hall.sorts]
    marks = marks + [("gives", lock) for lock in hall.locks]
    return marks + [("shares", at) for at in range(len(places))]


def needed_marks(hall, places, mark):
    """The marks that a mark needs."""
    if mark[0] == "under":
        return [("takes", mark[1]), ("takes", mark[2])]
    if mark[0] == "gives":
        return [("takes", mark[1])]
    if mark[0] == "writes" and mark[1] not in places and hall.guard_of(mark[1]) is not None:
        return [("takes", hall.guard_of(mark[1]))]
    return []


def parts_rule(hall, places, marks):
    """The first rule that the parts of a signature break, "" if none."""
    if not all([is_name(place) for place in places]) or not all([is_mark(mark) for mark in marks]):
        return "form"
    if len(places) > _MOST_PLACES:
        return "many"
    possible = all_marks(hall, places)
    if any([place not in hall.kinds for place in places]) or any([mark not in possible for mark in marks]):
        return "unknown"
    needed = [need for mark in marks for need in needed_marks(hall, places, mark)]
    return "needs" if any([need not in marks for need in needed]) else ""


def mark_word(mark):
    """The word that writes a mark; a shares mark has none of its own."""
    if mark[0] == "takes":
        return "+" + mark[1]
    if mark[0] == "under":
        return mark[1] + ">" + mark[2]
    if mark[0] == "writes":
        return mark[1] + "." + mark[2]
    return "=" + mark[1]


def word_mark(word):
    """The value that a word behind the colon writes; it is no mark if the word writes none."""
    if word[:1] == "+":
        return ("takes", word[1:])
    if word[:1] == "=":
        return ("gives", word[1:])
    if ">" in word:
        held, _, lock = word.partition(">")
        return ("under", held, lock)
    kind, _, field = word.partition(".")
    return ("writes", kind, field)


def written_parts(text):
    """The pair (places, marks) that a text writes, with the shares marks first; None if it breaks form."""
    words = text.split(" ")
    if ":" not in words:
        return None
    colon = words.index(":")
    places = [word[:-1] if word[-1:] == "*" else word for word in words[:colon]]
    shares = [("shares", at) for at, word in enumerate(words[:colon]) if word[-1:] == "*"]
    marks = [word_mark(word) for word in words[colon + 1:]]
    if not all([is_name(place) for place in places]) or not all([is_mark(mark) for mark in marks]):
        return None
    return places, shares + marks


def written_rule(hall, text):
    """The first rule that the written form of a signature breaks in a hall, "" if none."""
    parts = written_parts(text)
    if parts is None:
        return "form"
    places, marks = parts
    rule = parts_rule(hall, places, marks)
    if rule:
        return rule
    written = [mark for mark in marks if mark[0] != "shares"]
    ordered = [mark for mark in all_marks(hall, places) if mark in written]
    return "" if written == ordered else "order"


class Signature:
    """What is known of a body: its places and marks."""

    def __init__(self, hall, *places, marks=()):
        rule = parts_rule(hall, places, marks)
        if rule:
            raise BadPart(rule)
        self.hall = hall
        self.places = places
        self.marks = tuple([mark for mark in all_marks(hall, places) if mark in marks])
        self.takes = tuple([mark[1] for mark in self.marks if mark[0] == "takes"])
        self.under = tuple([mark[1:] for mark in self.marks if mark[0] == "under"])
        self.writes = tuple([mark[1:] for mark in self.marks if mark[0] == "writes"])
        self.gives = tuple([mark[1] for mark in self.marks if mark[0] == "gives"])
        self.shares = tuple([mark[1] for mark in self.marks if mark[0] == "shares"])
        self.is_giving = len(self.gives) > 0

    @staticmethod
    def fullest(hall, *places, giving=False):
        """The signature of these places that has all marks."""
        return fullest_signature(hall, places, giving)

    @staticmethod
    def read(hall, text):
        """The signature that a text writes."""
        return read_signature(hall, text)

    def __eq__(self, other):
        if not isinstance(other, Signature):
            return False
        return self.hall == other.hall and self.places == other.places and self.marks == other.marks

    def __iter__(self):
        return iter(self.marks)

    def __len__(self):
        return len(self.marks)

    def __contains__(self, mark):
        # Without the form a True would pass for the place 1.
        return is_mark(mark) and mark in self.marks

    def __or__(self, other):
        if not self.alike(other):
            raise Unlike()
        marks = self.marks + other.marks
        return Signature(self.hall, *self.places, marks=marks)

    def __and__(self, other):
        if not self.alike(other):
            raise Unlike()
        return self._kept_to([mark for mark in self.marks if mark in other.marks])

    def __sub__(self, mark):
        if mark not in self:
            raise NoSuch(mark)
        others = [one for one in self.marks if one != mark]
        return self._kept_to([one for one in others if mark not in needed_marks(self.hall, self.places, one)])

    def _kept_to(self, marks):
        if self.is_giving and not any([mark[0] == "gives" for mark in marks]):
            raise Unlike()
        return Signature(self.hall, *self.places, marks=marks)

    def alike(self, other):
        """True if both have equal halls and places, and both or neither give."""
        same = self.hall == other.hall and self.places == other.places
        return same and self.is_giving == other.is_giving

    def within(self, other):
        """True if they are alike and each mark is one of the other."""
        return self.alike(other) and all([mark in other.marks for mark in self.marks])

    def text(self):
        """The written form."""
        words = [place + "*" if at in self.shares else place for at, place in enumerate(self.places)]
        marks = [mark_word(mark) for mark in self.marks if mark[0] != "shares"]
        return " ".join(words + [":"] + marks)


def fullest_signature(hall, places, giving):
    """The signature of these places that has all marks, gives marks only if it is to be giving."""
    rule = parts_rule(hall, places, ())
    if rule:
        raise BadPart(rule)
    if giving and not hall.locks:
        raise BadPart("needs")
    marks = [mark for mark in all_marks(hall, places) if giving or mark[0] != "gives"]
    return Signature(hall, *places, marks=marks)


def read_signature(hall, text):
    """The signature that a text writes."""
    rule = written_rule(hall, text)
    if rule:
        raise BadPart(rule)
    places, marks = written_parts(text)
    return Signature(hall, *places, marks=marks)
