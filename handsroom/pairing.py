"""One hand of a product: its nodes, and what its steps do to the common object ([72], [73])."""

from handsroom.lonetable import START, LoneTable, locks_of, next_nodes
from handsroom.records import routine_in, shared_names
from handsroom.scenes import given_lock

OVER = (None, ())


def guard_locks(node):
    """The locks of the guards of a hand that is at a node, has not started or is over."""
    return () if node is None else locks_of(node[1])


def _without(names, x):
    return tuple([name for name in names if name != x])


class Side:
    """One of the two hands, the keeper or the other one.

    What a step does is told in outcomes, triples (names, common, mark).
    """

    def __init__(self, spread, kind, field, is_keeper):
        self.spread = spread
        self.field = field
        self.is_keeper = is_keeper
        self.names = tuple([name for name, known in routine_in(spread).names if known == kind])
        self._following = {node: next_nodes(spread, node) for node in LoneTable(spread).nodes}

    def step_at(self, node):
        """The step of a node."""
        return self.spread.points[node[0]].step

    def stands_at_stop(self, node):
        """True if the hand stands at its stop."""
        return node is not None and node[0] == self.spread.stop_point

    def nodes_behind(self, node, barred):
        """The nodes to which the hand can go when the locks barred are held by the other hand."""
        if node is None:
            return (START,)
        if node == OVER:
            return ()
        return tuple([reached for reached in self._following[node] if given_lock(node, reached) not in barred])

    def outcomes(self, node, names, common, mark):
        """What a start, if there is no node yet, or else the step of the node can do."""
        if node is None:
            chosen = [self._led(x, mark) for x in self.names if common in ("none", "shared")]
            return [((), common, mark)] + chosen
        step = self.step_at(node)
        if step[0] == "make":
            return self._made(step[1], names, common, mark)
        if step[0] == "fetch":
            return self._fetched(step[1], step[2:], names, common, mark)
        if step[0] == "copy":
            return [(self._copied(step[1], step[2], names), common, mark)]
        if step[0] in ("read", "write"):
            return [(names, common, self._mark_behind(step, names, mark))]
        shares = any([name in names for name in shared_names(self.spread, step)])
        return [(names, "shared" if shares else common, mark)]

    def _led(self, x, mark):
        """The outcome of a start or fetch that leads a name to the common object."""
        return ((x,), "shared", "nothing" if self.is_keeper else mark)

    def _made(self, x, names, common, mark):
        found = [(_without(names, x), common, mark)]
        if common == "none" and x in self.names:
            found.append(((x,), "keeper" if self.is_keeper else "other", "fresh" if self.is_keeper else mark))
        return found

    def _fetched(self, x, others, names, common, mark):
        left = _without(names, x)
        found = [(left, common, mark)]
        is_free = len(left) == 0 and not any([name in names for name in others])
        if x in self.names and common in ("none", "shared") and is_free:
            found.append(self._led(x, mark))
        return found

    def _copied(self, x, y, names):
        if y not in names:
            return _without(names, x)
        return tuple([name for name in self.names if name in names or name == x])

    def _mark_behind(self, step, names, mark):
        if step[1] not in names or step[2] != self.field:
            return mark
        if self.is_keeper:
            return "fresh"
        return "struck" if step[0] == "write" and mark == "fresh" else mark
