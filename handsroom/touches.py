"""Which objects a step touches, and which of these touches are bare ([33])."""

from handsroom.lonetable import locks_of
from handsroom.records import routine_in


def handled_name(step):
    """The name of whose object a read, keep or write is, None for any other step."""
    return step[1] if step[0] in ("read", "keep", "write") else None


def touched(spread, step):
    """The names whose objects a step touches, in the order of the step."""
    if step[0] in ("read", "write"):
        return (step[1],)
    if step[0] != "call":
        return ()
    routine = routine_in(spread)
    written = [kind for kind, _ in spread.house.signature_of(step[1]).writes]
    names = [name for name in step[2] if routine.kind_of(name) in written]
    return tuple([name for at, name in enumerate(names) if name not in names[:at]])


def bare_names(spread, node, record):
    """The touched names of the step of a node whose touch is bare there."""
    routine = routine_in(spread)
    held = locks_of(node[1])
    found = []
    for name in touched(spread, spread.points[node[0]].step):
        guard = spread.house.guard_of(routine.kind_of(name))
        if guard is not None and guard not in held and name not in record.own:
            found.append(name)
    return tuple(found)
