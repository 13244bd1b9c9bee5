"""Runs of lone paths ([36])."""

from handsroom.errors import BadRun
from handsroom.lonetable import lone_path
from handsroom.plain import is_index, is_integer
from handsroom.records import routine_in
from handsroom.scenes import Scene


def _parts_copied(value):
    """A list or tuple as a tuple, with the lists directly in it as tuples; any other value stays."""
    if not isinstance(value, (list, tuple)):
        return value
    return tuple([tuple(part) if isinstance(part, list) else part for part in value])


class Run:
    """First objects, the objects at which the names start, and answers."""

    def __init__(self, objects, start, answers):
        self.objects = tuple([_parts_copied(one) if isinstance(one, tuple) else one for one in objects])
        self.start = tuple(start)
        self.answers = tuple([_parts_copied(answer) for answer in answers])


class Played:
    """What happens in a run, at each node of its path."""

    def __init__(self, leads, own, numbers, sheets, shown, faults, contents):
        self.leads = leads
        self.own = own
        self.numbers = numbers
        self.sheets = sheets
        self.shown = shown
        self.faults = faults
        self.contents = contents


def _is_first_object(house, value):
    if not isinstance(value, tuple) or len(value) != 2 or value[0] not in house.kinds:
        return False
    kind, numbers = value
    if not isinstance(numbers, tuple) or len(numbers) != len(house.fields_of(kind)):
        return False
    return all([is_integer(number) for number in numbers])


def _begins_well(spread, path, run):
    if len(run.answers) != len(path) - 1:
        return False
    if not all([_is_first_object(spread.house, value) for value in run.objects]):
        return False
    kinds = [kind for kind, _ in run.objects]
    if not all([kind in kinds for kind in spread.house.kinds]):
        return False
    names = routine_in(spread).names
    if len(run.start) != len(names) or not all([is_index(number, len(kinds)) for number in run.start]):
        return False
    return all([kinds[run.start[at]] == kind for at, (_, kind) in enumerate(names)])


def play(spread, path, run):
    """What happens in a run of a lone path."""
    nodes = lone_path(spread, path)
    if not _begins_well(spread, nodes, run):
        raise BadRun(-1)
    scene = Scene(spread, run.objects, run.start)
    moments = []
    for at, node in enumerate(nodes):
        step = spread.points[node[0]].step
        moments.append(_moment(scene, node, step))
        if at < len(nodes) - 1:
            answer = run.answers[at]
            if not scene.allows(node, nodes[at + 1], answer):
                raise BadRun(at)
            scene.do_step(step, answer)
    leads, own, numbers, sheets, shown, faults = [tuple([moment[k] for moment in moments]) for k in range(6)]
    contents = tuple([(kind, tuple(scene.numbers[at])) for at, kind in enumerate(scene.kinds)])
    return Played(leads, own, numbers, sheets, shown, faults, contents)


def _moment(scene, node, step):
    """The entries of a Played for one node, in the order of its fields."""
    leads = tuple([scene.leads[name] for name in scene.names])
    numbers = tuple([tuple(scene.numbers[number]) for number in leads])
    sheets = tuple([tuple(scene.sheets[name]) for name in scene.names])
    return (leads, tuple(scene.own), numbers, sheets, scene.shown_by(step), scene.fault_at(node))
