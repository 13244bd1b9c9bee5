"""Which rules a routine breaks by its own lines, without its house ([13], [14], [19])."""

from handsroom.plain import has_repeat
from handsroom.rows import Row
from handsroom.words import is_name

_MOST_NAMES = 4
_MOST_ROWS = 24
_MOST_DEEDS = 24
_MOST_DEPTH = 3


def _is_name_pair(value):
    return isinstance(value, tuple) and len(value) == 2 and is_name(value[0]) and is_name(value[1])


def heading_rule(name, names):
    """The first rule that the routine line breaks by itself, "" if none."""
    if not is_name(name) or not all([_is_name_pair(pair) for pair in names]):
        return "form"
    if len(names) > _MOST_NAMES:
        return "many"
    return "twice" if has_repeat([pair[0] for pair in names]) else ""


def _weight(row):
    return 1 if row.word == "drop" else len(row.deeds)


class Shape:
    """What the rows of a routine so far ask of the next row.

    blocks has the word of each open block, outermost first, where "or" stands for an either
    block behind its or row; parts has the guard names in scope of each open part, the outermost
    part first.
    """

    def __init__(self, names, rows, deeds, given, guards, blocks, parts):
        self.names = names
        self.rows = rows
        self.deeds = deeds
        self.given = given
        self.guards = guards
        self.blocks = blocks
        self.parts = parts

    def rule_of(self, row):
        """The first rule that a next row, any value, breaks, "" if none."""
        if not isinstance(row, Row):
            return "form"
        if self.given or row.word == "give" and len(self.blocks) > 0:
            return "place"
        if self._is_too_much(row):
            return "many"
        if row.word == "close" and len(self.blocks) == 0 or row.word == "or" and self.blocks[-1:] != ("either",):
            return "pair"
        if has_repeat(row.guards) or any([guard in self.names + self.guards for guard in row.guards]):
            return "twice"
        if row.guard != "" and not any([row.guard in part for part in self.parts]):
            return "scope"
        return ""

    def _is_too_much(self, row):
        if self.rows >= _MOST_ROWS or row.opens and len(self.blocks) > _MOST_DEPTH:
            return True
        return self.deeds + _weight(row) > _MOST_DEEDS

    def end_rule(self):
        """The rule that a done line breaks behind these rows, "" if none."""
        return "pair" if len(self.blocks) > 0 else ""

    def behind(self, row):
        """The shape behind a row that breaks no rule."""
        blocks, parts = self._behind_blocks(row)
        guards = self.guards + row.guards
        deeds = self.deeds + _weight(row)
        return Shape(self.names, self.rows + 1, deeds, row.word == "give", guards, blocks, parts)

    def _behind_blocks(self, row):
        outer = self.parts[:-1]
        if row.word == "or":
            return self.blocks[:-1] + ("or",), outer + ((),)
        if row.word == "close":
            return self.blocks[:-1], outer
        parts = outer + (self.parts[-1] + row.guards,)
        if row.opens:
            return self.blocks + (row.word,), parts + ((),)
        return self.blocks, parts


def first_shape(names):
    """The shape of a routine with these object names ahead of its rows."""
    return Shape(names, 0, 0, False, (), (), ((),))


def routine_fault(name, names, rows):
    """The pair (line, rule) of the first line that breaks a rule, None if none does."""
    rule = heading_rule(name, names)
    if rule:
        return 1, rule
    shape = first_shape(tuple([pair[0] for pair in names]))
    for at, row in enumerate(rows):
        rule = shape.rule_of(row)
        if rule:
            return at + 2, rule
        shape = shape.behind(row)
    rule = shape.end_rule()
    return (len(rows) + 2, rule) if rule else None
