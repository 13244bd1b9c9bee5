"""A second reading of points [25], [34] to [36], [38]: what hands alone can do, by trying everything.

Objects are numbers here and numbers in their fields are left out, but for what the tests ask.
"""


def successors(spread, node):
    """The next nodes of a node."""
    point = spread.points[node[0]]
    step, guards = point.step, list(node[1])
    locks = {lock for _, lock in guards}
    if step[0] == "take":
        if step[1] in locks:
            return []
        return [(point.nexts[0], node[1] + ((step[2], step[1]),))]
    if step[0] == "call" and step[3]:
        gives = [mark[1] for mark in spread.house.signature_of(step[1]).marks if mark[0] == "gives"]
        return [(point.nexts[0], node[1] + ((step[3], lock),)) for lock in gives if lock not in locks]
    if step[0] == "drop":
        guards = [guard for guard in guards if guard[0] != step[1]]
    return [(following, tuple(guards)) for following in point.nexts]


def levels(spread):
    """The least length of a lone path to each node."""
    found = {(0, ()): 0}
    border = [(0, ())]
    while border:
        border = [(node, after) for node in border for after in successors(spread, node)]
        fresh = []
        for node, after in border:
            if after not in found:
                found[after] = found[node] + 1
                fresh.append(after)
        border = fresh
    return found


def kinds_of(spread):
    return dict(spread.house.routine_of(spread.name).names)


def endings(spread, path, spare=2):
    """The pairs (leads, own) that some run of a lone path can have at its end.

    leads is a tuple of the objects of the names and own the tuple of the own objects. There are
    as many first objects of each kind as could ever be told apart, and a few more.
    """
    kinds = kinds_of(spread)
    names = list(kinds)
    steps = [spread.points[node[0]].step for node in path[:-1]]
    fetches = sum(step[0] == "fetch" for step in steps)
    firsts = []
    for kind in spread.house.kinds:
        many = sum(known == kind for known in kinds.values()) + min(fetches, spare)
        firsts += [kind] * max(many, 1)
    states = {((), tuple(firsts), ())}
    for name in names:
        states = {(leads + (at,), objects, own) for leads, objects, own in states
                  for at, kind in enumerate(objects) if kind == kinds[name]}
    for step in steps:
        states = {after for state in states for after in behind(spread, names, kinds, step, state)}
    return {(leads, own) for leads, _, own in states}


def behind(spread, names, kinds, step, state):
    """The states (leads, kinds of the objects, own objects) that a step can lead to."""
    leads, objects, own = state
    if step[0] == "make":
        at = names.index(step[1])
        made = len(objects)
        return [(leads[:at] + (made,) + leads[at + 1:], objects + (kinds[step[1]],), own + (made,))]
    if step[0] == "copy":
        at = names.index(step[1])
        return [(leads[:at] + (leads[names.index(step[2])],) + leads[at + 1:], objects, own)]
    if step[0] == "fetch":
        at = names.index(step[1])
        barred = [leads[names.index(name)] for name in step[2:]] + list(own)
        return [(leads[:at] + (number,) + leads[at + 1:], objects, own) for number, kind in enumerate(objects)
                if kind == kinds[step[1]] and number not in barred]
    shared = []
    if step[0] == "put":
        shared = [step[1]]
    if step[0] == "call":
        marks = spread.house.signature_of(step[1]).marks
        shared = [step[2][mark[1]] for mark in marks if mark[0] == "shares"]
    gone = [leads[names.index(name)] for name in shared]
    return [(leads, objects, tuple(number for number in own if number not in gone))]


def groupings(names):
    """All ways to put names into groups, each as a list of tuples."""
    if not names:
        return [[]]
    found = []
    for rest in groupings(names[1:]):
        found.append([(names[0],)] + rest)
        for at in range(len(rest)):
            found.append(rest[:at] + [(names[0],) + rest[at]] + rest[at + 1:])
    return found


def grouping_of(names, leads):
    """The groups of the names that lead to one object."""
    return frozenset(frozenset(name for name, led in zip(names, leads) if led == object_) for object_ in set(leads))


class Player:
    """A run with numbers and sheets; names that have one sheet have one number of a sheet here."""

    def __init__(self, spread, run):
        self.spread = spread
        self.kinds = kinds_of(spread)
        self.rows = {row[0]: row for row in spread.house.hall.descriptions}
        self.objects = [[kind, dict(zip(self.rows[kind][2:], numbers)), True] for kind, numbers in run.objects]
        self.leads = dict(zip(self.kinds, run.start))
        self.sheet_of = {name: at for at, name in enumerate(self.kinds)}
        self.sheets = [{} for _ in self.kinds]

    def moment(self, node):
        """The entries of a Played at a node."""
        step = self.spread.points[node[0]].step
        held = [lock for _, lock in node[1]]
        led = list(self.leads.values())
        own = tuple(number for number, one in enumerate(self.objects) if not one[2])
        numbers = tuple(tuple(self.objects[at][1].values()) for at in led)
        sheets = tuple(tuple(self.sheets[self.sheet_of[name]].get(field) for field in self.rows[self.kinds[name]][2:])
                       for name in self.kinds)
        shown = fault = None
        touched = []
        if step[0] in ("read", "write"):
            touched = [step[1]]
        if step[0] == "call":
            written = [mark[1] for mark in self.spread.house.signature_of(step[1]).marks if mark[0] == "writes"]
            touched = [name for name in step[2] if self.kinds[name] in written]
        for name in touched:
            lock = self.rows[self.kinds[name]][1]
            if self.objects[self.leads[name]][2] and lock is not None and lock not in held:
                fault = "bare"
        if step[0] == "read":
            shown = self.objects[self.leads[step[1]]][1][step[2]]
        if step[0] == "keep":
            shown = self.sheets[self.sheet_of[step[1]]].get(step[2])
            fault = None if shown == self.objects[self.leads[step[1]]][1][step[2]] else "stale"
        return tuple(led), own, numbers, sheets, shown, fault

    def new_sheet(self, name, numbers):
        self.sheet_of[name] = len(self.sheets)
        self.sheets.append(numbers)

    def step(self, step, answer):
        word, x = step[0], step[1] if len(step) > 1 else None
        if word == "make":
            zeros = {field: 0 for field in self.rows[self.kinds[x]][2:]}
            self.leads[x] = len(self.objects)
            self.objects.append([self.kinds[x], dict(zeros), False])
            self.new_sheet(x, dict(zeros))
        elif word == "copy":
            self.leads[x], self.sheet_of[x] = self.leads[step[2]], self.sheet_of[step[2]]
        elif word == "fetch":
            self.leads[x] = answer
            self.new_sheet(x, {})
        elif word == "read":
            self.sheets[self.sheet_of[x]][step[2]] = self.objects[self.leads[x]][1][step[2]]
        elif word == "write":
            self.objects[self.leads[x]][1][step[2]] = answer
            self.sheets[self.sheet_of[x]][step[2]] = answer
        elif word == "put":
            self.objects[self.leads[x]][2] = True
        elif word == "call":
            for move in answer:
                if move[0] == "change":
                    self.objects[move[1]][1][move[2]] = move[3]
            for mark in self.spread.house.signature_of(step[1]).marks:
                if mark[0] == "shares":
                    self.objects[self.leads[step[2][mark[1]]]][2] = True

    def answers(self, node, following):
        """Some answers that may be given at a node: for a call only those without an inside lock."""
        step = self.spread.points[node[0]].step
        if step[0] == "fetch":
            barred = [self.leads[name] for name in step[2:]]
            return [at for at, one in enumerate(self.objects)
                    if one[2] and one[0] == self.kinds[step[1]] and at not in barred]
        if step[0] == "write":
            return [0, 5, -7]
        if step[0] != "call":
            return [None]
        lock = following[1][-1][1] if len(following[1]) > len(node[1]) else None
        last = () if lock is None else (("want", lock), ("take",))
        passed = [self.leads[name] for name in step[2]]
        found = [last]
        for mark in self.spread.house.signature_of(step[1]).marks:
            for at, one in enumerate(self.objects):
                reach = at in passed or one[2] and self.rows[one[0]][1] is None
                if mark[0] == "writes" and mark[1] == one[0] and reach:
                    found.append((("change", at, mark[2], 9), ("change", at, mark[2], 3)) + last)
        return found
