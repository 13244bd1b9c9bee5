"""A second reading of points [25], [34] to [36], [38]: what hands alone can do, by trying everything.

Objects are numbers here and numbers in their fields are left out, but for what the tests ask.
"""


def successors(spread, node):
    """The next nodes of a node."""
    point = spread.points[node[0]]
    step, guards = point.step, list(node[1])
    locks = {lock for _, lock in guards}
    if step[0] == "take":
        if step[1] in locks:
            return []
        return [(point.nexts[0], node[1] + ((step[2], step[1]),))]
    if step[0] == "call" and step[3]:
        gives = [mark[1] for mark in spread.house.signature_of(step[1]).marks if mark[0] == "gives"]
        return [(point.nexts[0], node[1] + ((step[3], lock),)) for lock in gives if lock not in locks]
    if step[0] == "drop":
        guards = [guard for guard in guards if guard[0] != step[1]]
    return [(following, tuple(guards)) for following in point.nexts]


def levels(spread):
    """The least length of a lone path to each node."""
    found = {(0, ()): 0}
    border = [(0, ())]
    while border:
        border = [(node, after) for node in border for after in successors(spread, node)]
        fresh = []
        for node, after in border:
            if after not in found:
                found[after] = found[node] + 1
                fresh.append(after)
        border = fresh
    return found


def kinds_of(spread):
    return dict(spread.house.routine_of(spread.name).names)


def endings(spread, path, spare=2):
    """The pairs (leads, own) that some run of a lone path can have at its end.

    leads is a tuple of the objects of the names and own the tuple of the own objects. There are
    as many first objects of each kind as could ever be told apart, and a few more.
    """
    kinds = kinds_of(spread)
    names = list(kinds)
    steps = [spread.points[node[0]].step for node in path[:-1]]
    fetches = sum(step[0] == "fetch" for step in steps)
    firsts = []
    for kind in spread.house.kinds:
        many = sum(known == kind for known in kinds.values()) + min(fetches, spare)
        firsts += [kind] * max(many, 1)
    states = {((), tuple(firsts), ())}
    for name in names:
        states = {(leads + (at,), objects, own) for leads, objects, own in states
                  for at, kind in enumerate(objects) if kind == kinds[name]}
    for step in steps:
        states = {after for state in states for after in behind(spread, names, kinds, step, state)}
    return {(leads, own) for leads, _, own in states}


def behind(spread, names, kinds, step, state):
    """The states (leads, kinds of the objects, own objects) that a step can lead to."""
    leads, objects, own = state
    if step[0] == "make":
        at = names.index(step[1])
        made = len(objects)
        return [(leads[:at] + (made,) + leads[at + 1:], objects + (kinds[step[1]],), own + (made,))]
    if step[0] == "copy":
        at = names.index(step[1])
        return [(leads[:at] + (leads[names.index(step[2])],) + leads[at + 1:], objects, own)]
    if step[0] == "fetch":
        at = names.index(step[1])
        barred = [leads[names.index(name)] for name in step[2:]] + list(own)
        return [(leads[:at] + (number,) + leads[at + 1:], objects, own) for number, kind in enumerate(objects)
                if kind == kinds[step[1]] and number not in barred]
    shared = []
    if step[0] == "put":
        shared = [step[1]]
    if step[0] == "call":
        marks = spread.house.signature_of(step[1]).marks
        shared = [step[2][mark[1]] for mark in marks if mark[0] == "shares"]
    gone = [leads[names.index(name)] for name in shared]
    return [(leads, objects, tuple(number for number in own if number not in gone))]


def groupings(names):
    """All ways to put names into groups, each as a list of tuples."""
    if not names:
        return [[]]
    found = []
    for rest in groupings(names[1:]):
        found.append([(names[0],)] + rest)
        for at in range(len(rest)):
            found.append(rest[:at] + [(names[0],) + rest[at]] + rest[at + 1:])
    return found


def grouping_of(names, leads):
    """The groups of the names that lead to one object."""
    return frozenset(frozenset(name for name, led in zip(names, leads) if led == object_) for object_ in set(leads))
