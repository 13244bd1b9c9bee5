"""Halls: locks and kinds of objects ([3])."""

from handsroom.errors import BadLine, NoSuch
from handsroom.plain import has_repeat
from handsroom.words import is_name

_MOST_LOCKS = 4
_MOST_KINDS = 3


def is_description(value):
    """True if the value, any value, describes a kind."""
    if not isinstance(value, tuple) or len(value) not in (3, 4):
        return False
    if value[1] is not None and not is_name(value[1]):
        return False
    return is_name(value[0]) and all([is_name(field) for field in value[2:]])


def lock_rule(lock, locks):
    """The first rule that a lock breaks behind these locks, "" if none."""
    if not is_name(lock):
        return "form"
    if len(locks) >= _MOST_LOCKS:
        return "many"
    return "twice" if lock in locks else ""


def kind_rule(description, locks, kinds):
    """The first rule that a description breaks behind these locks and kinds, "" if none."""
    if not is_description(description):
        return "form"
    if len(kinds) >= _MOST_KINDS:
        return "many"
    if description[0] in locks or description[0] in kinds or has_repeat(description[2:]):
        return "twice"
    if description[1] is not None and description[1] not in locks:
        return "unknown"
    return ""


def hall_fault(locks, descriptions):
    """The pair (line, rule) of the first line of a hall that breaks a rule, None if none does."""
    for at, lock in enumerate(locks):
        rule = lock_rule(lock, locks[:at])
        if rule:
            return at + 1, rule
    kinds = []
    for at, description in enumerate(descriptions):
        rule = kind_rule(description, locks, kinds)
        if rule:
            return len(locks) + at + 1, rule
        kinds.append(description[0])
    return None if kinds else (len(locks) + 1, "end")


class Hall:
    """Locks and kinds, each in an order."""

    def __init__(self, locks, *descriptions):
        fault = hall_fault(tuple(locks), descriptions)
        if fault is not None:
            line, rule = fault
            raise BadLine(line, rule)
        self.locks = tuple(locks)
        self.descriptions = descriptions
        self.kinds = tuple([description[0] for description in descriptions])
        self.sorts = tuple([(row[0], field) for row in descriptions for field in row[2:]])

    def __eq__(self, other):
        return isinstance(other, Hall) and self.locks == other.locks and self.descriptions == other.descriptions

    def _description_of(self, kind):
        for description in self.descriptions:
            if description[0] == kind:
                return description
        raise NoSuch(kind)

    def guard_of(self, kind):
        """The lock of the kind, None if it is open."""
        return self._description_of(kind)[1]

    def fields_of(self, kind):
        """The fields of the kind, in order."""
        return self._description_of(kind)[2:]

    def text(self):
        """The lines of the hall."""
        lines = ["lock " + lock for lock in self.locks]
        for description in self.descriptions:
            words = ["-" if word is None else word for word in description]
            lines.append("kind " + " ".join(words))
        return "\n".join(lines)
