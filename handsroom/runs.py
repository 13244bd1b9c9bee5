"""What is known along a lone path, and runs that show what is not ([42], [44])."""

from handsroom.errors import NoSuch
from handsroom.joining import tied_run
from handsroom.lonetable import lone_path, locks_of
from handsroom.marks import first_marked, marked_after
from handsroom.records import relation, routine_in


def marked_records(spread, path):
    """Yields the marked record at each node of a lone path, in order."""
    record = first_marked(spread)
    for at, node in enumerate(path):
        if at > 0:
            before, guards = path[at - 1]
            record = marked_after(spread, locks_of(guards), record, spread.points[before].step)
        yield record


def _last_loss(spread, nodes, marked, name, field):
    """Why a name is not known at a field at the end: a triple (position, name there, step).

    It was known at the node of this position, and the step of this node took that away. None if
    its sheet has nothing at the field at the end.
    """
    for at in range(len(nodes) - 2, -1, -1):
        step = spread.points[nodes[at][0]].step
        if step[0] == "fetch" and step[1] == name:
            return None
        if step[0] == "copy" and step[1] == name:
            name = step[2]
        if marked[at].knows(name, field):
            return at, name, step
    return None


def _ties_for(spread, record, name, step):
    """The groups that must be tied just before a step, so that it makes the number of a name another one."""
    passed = step[2] if step[0] == "call" else (step[1],)
    reached = [other for other in passed if relation(spread, record, other, name) != "apart"]
    # A body that is passed no such name reaches the object all the same, as it is shared.
    return [(name, reached[0])] if len(reached) > 0 else []


def stale_run(spread, path, name, field):
    """A stale run of a lone path for a name and a field, None if the name is known there at the end."""
    nodes = lone_path(spread, path)
    if field not in spread.house.fields_of(routine_in(spread).kind_of(name)):
        raise NoSuch(field)
    marked = list(marked_records(spread, nodes))
    if marked[-1].knows(name, field):
        return None
    loss = _last_loss(spread, nodes, marked, name, field)
    if loss is None:
        return tied_run(spread, nodes, 0, [])
    position, known, step = loss
    return tied_run(spread, nodes, position, _ties_for(spread, marked[position], known, step))
