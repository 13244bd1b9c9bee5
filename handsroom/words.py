"""Names, reserved words and rules ([1], [2])."""

RESERVED = (
    "lock", "kind", "body", "routine", "done", "do", "with", "block", "either", "or", "repeat", "close", "drop",
    "give", "skip", "make", "copy", "fetch", "read", "keep", "write", "put", "call", "take", "as",
)
RULES = ("form", "place", "many", "pair", "twice", "scope", "unknown", "fit", "needs", "order", "end")

_LETTERS = "abcdefghijklmnopqrstuvwxyz"
_DIGITS = "0123456789"
_MOST_CHARACTERS = 8


def is_name(value):
    """True if the value, any value, is a name."""
    if not isinstance(value, str) or not 1 <= len(value) <= _MOST_CHARACTERS:
        return False
    if value[0] not in _LETTERS or value in RESERVED:
        return False
    return all([letter in _LETTERS or letter in _DIGITS for letter in value])


def first_rule(broken):
    """The first of the broken rules in the order of [1], "" if there is none."""
    for rule in RULES:
        if rule in broken:
            return rule
    return ""
