"""A second reading of points [14], [15], [21] to [24]: what a hand does along a way through the rows.

The rows are taken as a tree of parts; the guards of a part end behind it.
"""


def tree_of(rows, at=0):
    """The pair (nodes, number of the row behind them) of the part that begins at a row."""
    nodes = []
    while at < len(rows) and rows[at].word not in ("or", "close"):
        if not rows[at].opens:
            nodes.append((at, None, None, None, None))
            at += 1
            continue
        opening = at
        first, at = tree_of(rows, at + 1)
        middle = second = None
        if rows[at].word == "or":
            middle = at
            second, at = tree_of(rows, at + 1)
        nodes.append((opening, first, middle, second, at))
        at += 1
    return nodes, at


class Walk:
    """The triples (step, row, deed) that come one after another, and the rows, for given choices."""

    def __init__(self, house, routine, choices):
        self.house = house
        self.rows = routine.rows
        self.choices = list(choices)
        self.steps = []
        self.path = []
        nodes, end = tree_of(self.rows)
        self.part(nodes)
        self.path.append(end)
        given = ""
        for row in self.rows:
            if row.word == "give":
                given = row.guard
        self.drop([tag for tag in self.named_in(nodes) if tag != given], end)
        self.steps.append((("stop", given), end, -1))

    def makes(self, deed):
        if deed[0] == "call":
            return any(mark[0] == "gives" for mark in self.house.signature_of(deed[1]).marks)
        return deed[0] == "take"

    def tags(self, row, bears):
        """The tags of the makers of a row that bear a guard name, or do not."""
        found = []
        for index, deed in enumerate(self.rows[row].deeds):
            if self.makes(deed) and (deed[-2] == "as") == bears:
                found.append(deed[-1] if bears else f"{row}.{index}")
        return found

    def named_in(self, nodes):
        return [tag for node in nodes for tag in self.tags(node[0], True)]

    def drop(self, tags, row):
        for tag in reversed(tags):
            self.steps.append((("drop", tag), row, -1))

    def deeds(self, row):
        for index, deed in enumerate(self.rows[row].deeds):
            step = deed
            if deed[0] in ("call", "take"):
                bare = deed[:-2] if deed[-2] == "as" else deed
                tag = deed[-1] if deed[-2] == "as" else f"{row}.{index}" if self.makes(deed) else ""
                step = bare + (tag,)
            self.steps.append((step, row, index))

    def part(self, nodes):
        for opening, first, middle, second, closing in nodes:
            self.path.append(opening)
            word = self.rows[opening].word
            self.deeds(opening)
            if word == "do":
                self.drop(self.tags(opening, False), opening)
            elif word == "drop":
                self.steps.append((("drop", self.rows[opening].guard), opening, -1))
            elif word == "repeat":
                self.repeat(opening, first, closing)
            elif word == "either":
                self.either(opening, first, middle, second, closing)
            elif word in ("with", "block"):
                self.part(first)
                self.path.append(closing)
                self.drop(self.named_in(first), closing)
                self.drop(self.tags(opening, False), closing)

    def repeat(self, opening, first, closing):
        self.steps.append((("skip",), opening, -1))
        while self.choices and self.choices.pop(0) == 0:
            self.part(first)
            self.path += [closing, opening]
            self.drop(self.named_in(first), closing)
            self.steps.append((("skip",), opening, -1))

    def either(self, opening, first, middle, second, closing):
        self.steps.append((("skip",), opening, -1))
        if self.choices and self.choices.pop(0) == 0:
            self.part(first)
            ending = closing if middle is None else middle
            self.path.append(ending)
            self.drop(self.named_in(first), ending)
        elif middle is not None:
            self.part(second)
            self.path.append(closing)
            self.drop(self.named_in(second), closing)
