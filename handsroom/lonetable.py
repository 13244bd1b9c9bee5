"""Nodes, lone paths and the lone table of a routine ([25] to [27])."""

from handsroom.errors import BadPath, BadPoint, NoNode
from handsroom.plain import is_index, is_integer

START = (0, ())


def locks_of(guards):
    """The locks of guards, in their order."""
    return tuple([lock for _, lock in guards])


def _is_guard(value):
    return isinstance(value, tuple) and len(value) == 2 and isinstance(value[0], str) and isinstance(value[1], str)


def is_node(value):
    """True if the value, any value, has the form of a node."""
    if not isinstance(value, tuple) or len(value) != 2 or not is_integer(value[0]):
        return False
    return isinstance(value[1], tuple) and all([_is_guard(guard) for guard in value[1]])


def _made_locks(spread, step):
    """The locks of which a step may make a guard, in order."""
    if step[0] == "take":
        return (step[1],)
    return spread.house.signature_of(step[1]).gives


def next_nodes(spread, node):
    """The next nodes of a node, in order."""
    if not is_node(node) or not is_index(node[0], len(spread.points)):
        raise NoNode(node)
    number, guards = node
    point = spread.points[number]
    step = point.step
    if step[0] == "take" or step[0] == "call" and step[3] != "":
        free = [lock for lock in _made_locks(spread, step) if lock not in locks_of(guards)]
        return tuple([(point.nexts[0], guards + ((step[-1], lock),)) for lock in free])
    if step[0] == "drop":
        guards = tuple([guard for guard in guards if guard[0] != step[1]])
    return tuple([(number, guards) for number in point.nexts])


def lone_path(spread, nodes):
    """The nodes as a tuple, if they are a lone path."""
    possible = (START,)
    for position, node in enumerate(nodes):
        if not is_node(node) or node not in possible:
            raise BadPath(position)
        possible = next_nodes(spread, node)
    if len(nodes) == 0:
        raise BadPath(0)
    return tuple(nodes)


def missing_nodes(spread, nodes):
    """What the nodes lack to be closed, each once."""
    seen = {node: True for node in nodes}
    missing = []
    if START not in seen:
        seen[START] = True
        missing.append(START)
    for node in nodes:
        for following in next_nodes(spread, node):
            if following not in seen:
                seen[following] = True
                missing.append(following)
    return tuple(missing)


def is_closed(spread, nodes):
    """True if the nodes lack nothing to be closed."""
    return len(missing_nodes(spread, nodes)) == 0


class LoneTable:
    """All nodes of the lone paths of a routine, as they are found."""

    def __init__(self, spread):
        self.spread = spread
        self._numbers = {START: 0}
        self._parents = [None]
        self._distances = [0]
        nodes = [START]
        at = 0
        while at < len(nodes):
            node = nodes[at]
            for following in next_nodes(spread, node):
                if following not in self._numbers:
                    self._numbers[following] = len(nodes)
                    self._parents.append(at)
                    self._distances.append(self._distances[at] + 1)
                    nodes.append(following)
            at += 1
        self.nodes = tuple(nodes)
        self._at_points = [[] for _ in spread.points]
        for node in nodes:
            self._at_points[node[0]].append(node)

    def __len__(self):
        return len(self.nodes)

    def __iter__(self):
        return iter(self.nodes)

    def __contains__(self, node):
        return is_node(node) and node in self._numbers

    def number_of(self, node):
        """The number of a node."""
        if node not in self:
            raise NoNode(node)
        return self._numbers[node]

    def distance_to(self, node):
        """The least length of a lone path to a node."""
        return self._distances[self.number_of(node)]

    def parent_of(self, node):
        """The node from which a node was found, None for the first one."""
        parent = self._parents[self.number_of(node)]
        return None if parent is None else self.nodes[parent]

    def path_to(self, node):
        """The lone path to a node over the parents."""
        path = []
        at = self.number_of(node)
        while at is not None:
            path.append(self.nodes[at])
            at = self._parents[at]
        return tuple(path[::-1])

    def nodes_at(self, point):
        """The nodes at a point, by number."""
        if not is_index(point, len(self._at_points)):
            raise BadPoint(point)
        return tuple(self._at_points[point])

    def held_sets(self, point):
        """The held sets of a point, ascending."""
        order = self.spread.house.locks
        held = {}
        for _, guards in self.nodes_at(point):
            held[tuple(sorted([order.index(lock) for lock in locks_of(guards)]))] = True
        return tuple([tuple([order[at] for at in positions]) for positions in sorted(list(held))])

    def always(self, point):
        """The locks that each node of a point holds, in order."""
        held = self.held_sets(point)
        return tuple([lock for lock in self.spread.house.locks if all([lock in locks for locks in held])])

    def ever(self, point):
        """The locks that a node of a point holds, in order."""
        held = self.held_sets(point)
        return tuple([lock for lock in self.spread.house.locks if any([lock in locks for locks in held])])

    def stuck_nodes(self):
        """The nodes without a next node that are not at the stop point, by number."""
        spread = self.spread
        waiting = [node for node in self.nodes if node[0] != spread.stop_point]
        return tuple([node for node in waiting if len(next_nodes(spread, node)) == 0])
