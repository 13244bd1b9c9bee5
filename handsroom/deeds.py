"""Deeds, the smallest parts of a routine ([11])."""

from handsroom.errors import BadPart
from handsroom.plain import has_repeat
from handsroom.words import is_name

# How many parts the deeds have whose parts are their word and names.
_LENGTHS = {"skip": 1, "make": 2, "copy": 3, "read": 3, "keep": 3, "write": 3, "put": 2}


def _without_guard(value):
    """A take or call without its last two parts, if they bear a guard name."""
    if len(value) > 3 and value[-2] == "as" and is_name(value[-1]):
        return value[:-2]
    return value


def _is_call(value):
    if len(value) != 3 or not is_name(value[1]) or not isinstance(value[2], tuple):
        return False
    return all([is_name(name) for name in value[2]])


def is_deed(value):
    """True if the value, any value, is a deed."""
    if not isinstance(value, tuple) or len(value) == 0 or not isinstance(value[0], str):
        return False
    word = value[0]
    if word == "call":
        return _is_call(_without_guard(value))
    names = _without_guard(value)[1:] if word == "take" else value[1:]
    if not all([is_name(name) for name in names]):
        return False
    if word == "take":
        return len(names) == 1
    if word == "fetch":
        return len(names) > 0 and not has_repeat(names[1:])
    return word in _LENGTHS and len(value) == _LENGTHS[word]


def deed_words(deed):
    """The words of a deed or a step, those of a tuple in it, too."""
    words = []
    for part in deed:
        if isinstance(part, tuple):
            words.extend(part)
        else:
            words.append(part)
    return words


def deed_text(deed):
    """The text of a deed."""
    return " ".join(deed_words(deed))


def read_deed(text):
    """The deed with this text."""
    words = text.split(" ")
    guard = ()
    if len(words) > 2 and words[-2] == "as":
        guard = tuple(words[-2:])
        words = words[:-2]
    deed = tuple(words) + guard
    if words[0] == "call":
        deed = tuple(words[:2]) + (tuple(words[2:]),) + guard
    if not is_deed(deed):
        raise BadPart("form")
    return deed


def guard_name(deed):
    """The guard name that a deed bears, "" if none."""
    return deed[-1] if len(deed) > 3 and deed[-2] == "as" else ""


def named(deed, guard):
    """The take or call with this guard name."""
    return _without_guard(deed) + ("as", guard)


def object_names(deed):
    """The object names in a deed, or in a step other than a drop or stop, in their order."""
    if deed[0] in ("make", "read", "keep", "write", "put"):
        return deed[1:2]
    if deed[0] in ("copy", "fetch"):
        return deed[1:]
    return deed[2] if deed[0] == "call" else ()
