"""Clashes of names, and runs at whose end just the tied names lead to one object ([38])."""

from handsroom.errors import NoSuch
from handsroom.lonetable import lone_path, locks_of
from handsroom.loneruns import Run
from handsroom.records import names_in, records, relation, routine_in
from handsroom.scenes import Scene, given_lock


def _ties(spread, record, groups):
    """For each name one name to which all names are brought that are tied to it."""
    ties = {name: name for name in names_in(spread)}
    for group in list(record.blocks) + list(groups):
        met = [ties[name] for name in group]
        ties = {name: met[0] if ties[name] in met else ties[name] for name in ties}
    return ties


def _last_record(spread, path):
    return list(records(spread, path))[-1]


def _clash_in(spread, record, ties):
    names = names_in(spread)
    for at, x in enumerate(names):
        for y in names[at + 1:]:
            if ties[x] == ties[y] and relation(spread, record, x, y) == "apart":
                return (x, y)
    return None


def _check_groups(spread, groups):
    names = names_in(spread)
    for group in groups:
        for name in group:
            if name not in names:
                raise NoSuch(name)


def first_clash(spread, path, *groups):
    """The first clash at the end of a lone path for groups of names, None if there is none."""
    nodes = lone_path(spread, path)
    _check_groups(spread, groups)
    record = _last_record(spread, nodes)
    return _clash_in(spread, record, _ties(spread, record, groups))


class Origins:
    """Where the objects of the names of a lone path come from.

    rows has a pair (word, name) for each origin: the start of each name, then each make and
    fetch of the path in order. made_at has the origin of a make or fetch by the position of its
    node, and at_end the origin of the object of each name at the end.
    """

    def __init__(self, spread, path):
        names = names_in(spread)
        self.rows = [("start", name) for name in names]
        self.made_at = {}
        self.at_end = {name: at for at, name in enumerate(names)}
        for position, node in enumerate(path[:-1]):
            step = spread.points[node[0]].step
            if step[0] == "copy":
                self.at_end[step[1]] = self.at_end[step[2]]
            elif step[0] in ("make", "fetch"):
                self.at_end[step[1]] = len(self.rows)
                self.made_at[position] = len(self.rows)
                self.rows.append((step[0], step[1]))

    def leaders(self, ties):
        """For each origin the one whose object it has, so that the tied names have one object."""
        leaders = list(range(len(self.rows)))
        for name in self.at_end:
            tied = [self.at_end[other] for other in self.at_end if ties[other] == ties[name]]
            # Without a clash what is made comes ahead of the fetches that find it.
            leaders[self.at_end[name]] = min(tied)
        return leaders


def _first_kinds(spread, origins, leaders):
    """The pair (kinds of the first objects, number of the object of each leading origin)."""
    routine = routine_in(spread)
    kinds = []
    numbers = {}
    for origin, (word, name) in enumerate(origins.rows):
        if leaders[origin] == origin and word != "make":
            numbers[origin] = len(kinds)
            kinds.append(routine.kind_of(name))
    kinds = kinds + [kind for kind in spread.house.kinds if kind not in kinds]
    makes = [origin for origin, row in enumerate(origins.rows) if row[0] == "make"]
    for at, origin in enumerate(makes):
        numbers[origin] = len(kinds) + at
    return kinds, numbers


class Fresh:
    """Numbers from 1 on, each given out once."""

    def __init__(self):
        self.last = 0

    def one(self):
        """A number that was not given out yet."""
        self.last += 1
        return self.last


def _changes(scene, node, number, fresh):
    """The moves of the call at a node that change one object as far as its body may."""
    step = scene.spread.points[node[0]].step
    signature = scene.house.signature_of(step[1])
    kind = scene.kinds[number]
    guard = scene.house.guard_of(kind)
    fields = [field for written, field in signature.writes if written == kind]
    shared = number not in scene.own
    passed = number in [scene.leads[name] for name in step[2]]
    if passed or shared and guard is None:
        return [("change", number, field, fresh.one()) for field in fields]
    if len(fields) == 0 or not shared or guard not in signature.takes or guard in locks_of(node[1]):
        return []
    changes = [("change", number, field, fresh.one()) for field in fields]
    return [("want", guard), ("take",)] + changes + [("back",)]


def _call_moves(scene, node, lock, fresh):
    """The moves of a call that change what it may, and make the guard of the lock, if any."""
    moves = []
    led = [scene.leads[name] for name in scene.names]
    for number in range(len(scene.kinds)):
        if number in led:
            moves.extend(_changes(scene, node, number, fresh))
    return tuple(moves + ([] if lock is None else [("want", lock), ("take",)]))


def tied_run(spread, nodes, position, groups):
    """A run of a lone path in which just the names tied at the node of a position lead to one object there.

    It has the two more properties of joined runs. The groups have no clash at this node.
    """
    reached = nodes[:position + 1]
    leaders = Origins(spread, reached).leaders(_ties(spread, _last_record(spread, reached), groups))
    origins = Origins(spread, nodes)
    leaders = leaders + list(range(len(leaders), len(origins.rows)))
    kinds, numbers = _first_kinds(spread, origins, leaders)
    fresh = Fresh()
    objects = [(kind, tuple([fresh.one() for _ in spread.house.fields_of(kind)])) for kind in kinds]
    start = [numbers[leaders[at]] for at in range(len(names_in(spread)))]
    scene = Scene(spread, objects, start)
    answers = []
    for at, node in enumerate(nodes[:-1]):
        step = spread.points[node[0]].step
        answer = None
        if step[0] == "fetch":
            answer = numbers[leaders[origins.made_at[at]]]
        elif step[0] == "write":
            answer = fresh.one()
        elif step[0] == "call":
            answer = _call_moves(scene, node, given_lock(node, nodes[at + 1]), fresh)
        scene.do_step(step, answer)
        answers.append(answer)
    return Run(objects, start, answers)


def joined_run(spread, path, *groups):
    """A joined run of a lone path for groups of names, None if there is a clash."""
    nodes = lone_path(spread, path)
    _check_groups(spread, groups)
    record = _last_record(spread, nodes)
    if _clash_in(spread, record, _ties(spread, record, groups)) is not None:
        return None
    return tied_run(spread, nodes, len(nodes) - 1, groups)
