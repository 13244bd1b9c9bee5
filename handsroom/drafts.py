"""Which rule a line of a house's text breaks first ([17] to [19]).

A line is a tuple that begins with its word: ("lock", L), ("kind", description),
("body", B, written form), ("routine", R, pairs), ("row", Row) or ("done",). A text line that is
none of these is ("",).
"""

from handsroom.deeds import guard_name, object_names
from handsroom.errors import BadPart
from handsroom.kinds import Hall, kind_rule, lock_rule
from handsroom.rows import read_row
from handsroom.shapes import first_shape, heading_rule
from handsroom.signatures import read_signature, written_parts, written_rule
from handsroom.words import first_rule, is_name

_MOST_BODIES = 3
_MOST_ROUTINES = 4


def _read_row(text):
    try:
        return ("row", read_row(text))
    except BadPart:
        return ("",)


def read_line(text):
    """The line that a text line writes; its names are not checked yet."""
    words = text.split(" ")
    if words[0] == "lock" and len(words) == 2:
        return ("lock", words[1])
    if words[0] == "kind":
        return ("kind", tuple([None if at == 1 and word == "-" else word for at, word in enumerate(words[1:])]))
    if words[0] == "body" and len(words) > 1:
        return ("body", words[1], " ".join(words[2:]))
    if words[0] == "routine" and len(words) > 1:
        return ("routine", words[1], tuple([tuple(word.split(":")) for word in words[2:]]))
    if text == "done":
        return ("done",)
    return _read_row(text)


def house_lines(hall, bodies, routines):
    """The lines of a house; bodies are pairs (name, Signature), routines triples (name, names, rows)."""
    lines = [("lock", lock) for lock in hall.locks]
    lines = lines + [("kind", description) for description in hall.descriptions]
    lines = lines + [("body", name, signature.text()) for name, signature in bodies]
    for name, names, rows in routines:
        lines = lines + [("routine", name, names)] + [("row", row) for row in rows] + [("done",)]
    return lines


class Draft:
    """The lines of a house so far, none of which breaks a rule.

    bodies has pairs (name, Signature), routines the names of the routines, pairs the object
    names with their kinds and shape the Shape of the routine that is not done; without such a
    routine shape is None.
    """

    def __init__(self, locks, descriptions, bodies, routines, pairs, shape):
        self.locks = locks
        self.descriptions = descriptions
        self.bodies = bodies
        self.routines = routines
        self.pairs = pairs
        self.shape = shape

    def _kinds(self):
        return tuple([description[0] for description in self.descriptions])

    def _names(self):
        return self.locks + self._kinds() + tuple([name for name, _ in self.bodies]) + self.routines

    def rule_of(self, line):
        """The first rule that a next line breaks, "" if none."""
        if line[0] == "lock":
            rule = lock_rule(line[1], self.locks)
            return self._placed(rule, len(self.descriptions) == 0)
        if line[0] == "kind":
            rule = kind_rule(line[1], self.locks, self._kinds())
            return self._placed(rule, len(self.bodies) + len(self.routines) == 0)
        if line[0] == "body":
            return self._body_rule(line[1], line[2])
        if line[0] == "routine":
            return self._placed(self._routine_rule(line[1], line[2]), len(self.descriptions) > 0)
        if line[0] == "row":
            return self._row_rule(line[1])
        if line[0] == "done":
            return "place" if self.shape is None else self.shape.end_rule()
        return "form"

    def _placed(self, rule, fits):
        """The first one of a rule and of place, which the line of a lock, kind, body or routine may break."""
        if rule != "form" and (self.shape is not None or not fits):
            return "place"
        return rule

    def _body_rule(self, name, text):
        if not is_name(name) or written_parts(text) is None:
            return "form"
        if self._placed("", len(self.descriptions) > 0 and len(self.routines) == 0) != "":
            return "place"
        many = "many" if len(self.bodies) >= _MOST_BODIES else ""
        twice = "twice" if name in self._names() else ""
        return first_rule((many, twice, written_rule(self._hall(), text)))

    def _hall(self):
        descriptions = self.descriptions
        return Hall(self.locks, *descriptions)

    def _routine_rule(self, name, pairs):
        rule = heading_rule(name, pairs)
        if rule == "form":
            return "form"
        many = "many" if len(self.routines) >= _MOST_ROUTINES else ""
        twice = "twice" if name in self._names() else ""
        kinds = self._kinds()
        unknown = "unknown" if any([kind not in kinds for _, kind in pairs]) else ""
        return first_rule((rule, many, twice, unknown))

    def _row_rule(self, row):
        if self.shape is None:
            return "place"
        rule = self.shape.rule_of(row)
        if rule:
            return rule
        if not all([self._knows(deed) for deed in row.deeds]):
            return "unknown"
        return "" if all([self._fits(deed) for deed in row.deeds]) else "fit"

    def _kinds_in(self, deed):
        """The kinds of the object names in a deed, in order; None for a name that is not there."""
        found = []
        for name in object_names(deed):
            kinds = [kind for known, kind in self.pairs if known == name]
            found.append(kinds[0] if kinds else None)
        return found

    def _knows(self, deed):
        kinds = self._kinds_in(deed)
        if None in kinds:
            return False
        if deed[0] in ("read", "keep", "write"):
            return deed[2] in self._hall().fields_of(kinds[0])
        if deed[0] == "take":
            return deed[1] in self.locks
        return deed[0] != "call" or any([name == deed[1] for name, _ in self.bodies])

    def _fits(self, deed):
        kinds = self._kinds_in(deed)
        if deed[0] == "call":
            signature = [known for name, known in self.bodies if name == deed[1]][0]
            return tuple(kinds) == signature.places and (signature.is_giving or guard_name(deed) == "")
        # Of the other deeds only a copy or fetch has several names.
        return all([kind == kinds[0] for kind in kinds])

    def behind(self, line):
        """The draft behind a line that breaks no rule."""
        if line[0] == "lock":
            return Draft(self.locks + (line[1],), (), (), (), (), None)
        if line[0] == "kind":
            return Draft(self.locks, self.descriptions + (line[1],), (), (), (), None)
        bodies, routines, pairs, shape = self.bodies, self.routines, self.pairs, self.shape
        if line[0] == "body":
            bodies = bodies + ((line[1], read_signature(self._hall(), line[2])),)
        elif line[0] == "routine":
            routines, pairs = routines + (line[1],), tuple(line[2])
            shape = first_shape(tuple([name for name, _ in pairs]))
        else:
            shape = shape.behind(line[1]) if line[0] == "row" else None
        return Draft(self.locks, self.descriptions, bodies, routines, pairs, shape)


def first_fault(lines):
    """The pair (line, rule) of the first line that breaks a rule, None if none does."""
    draft = Draft((), (), (), (), (), None)
    for at, line in enumerate(lines):
        rule = draft.rule_of(line)
        if rule:
            return at + 1, rule
        draft = draft.behind(line)
    if draft.shape is not None or len(draft.routines) == 0:
        return len(lines) + 1, "end"
    return None
