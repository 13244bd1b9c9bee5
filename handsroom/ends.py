"""Where guards live, and where they end on a lone path ([29], [30])."""

from handsroom.lonetable import lone_path


def life(table, tag):
    """The points that have a node with a guard of the tag, ascending."""
    table.spread.maker_point(tag)
    points = {number: True for number, guards in table.nodes if tag in [other for other, _ in guards]}
    return tuple(sorted(list(points)))


def _first_end(spread, nodes, made, tag):
    """The index of the first node behind made whose step ends the guard of the tag, None if there is none."""
    for at in range(made + 1, len(nodes)):
        if spread.points[nodes[at][0]].step in (("drop", tag), ("stop", tag)):
            return at
    return None


def endings(spread, nodes):
    """A tuple (tag, lock, made, ended) for each guard that is made on a lone path, in the order of making."""
    path = lone_path(spread, nodes)
    found = []
    for at in range(len(path) - 1):
        before, behind = path[at][1], path[at + 1][1]
        if len(behind) > len(before):
            tag, lock = behind[-1]
            found.append((tag, lock, at, _first_end(spread, path, at, tag)))
    return tuple(found)
