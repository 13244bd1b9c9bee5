"""A hand alone among its objects, step by step ([34] to [36])."""

from handsroom.answers import Setting, is_answer
from handsroom.lonetable import locks_of
from handsroom.plain import is_index, is_integer
from handsroom.records import names_in, routine_in, shared_names
from handsroom.touches import touched


def given_lock(node, following):
    """The lock of the guard that the next node has more, None if it has none more."""
    if len(following[1]) > len(node[1]):
        return following[1][-1][1]
    return None


class Scene:
    """The objects, names and sheets of one hand; names that have one sheet have one list here."""

    def __init__(self, spread, objects, start):
        house = spread.house
        routine = routine_in(spread)
        self.house = house
        self.routine = routine
        self.spread = spread
        self.names = names_in(spread)
        self.kinds = [kind for kind, _ in objects]
        self.numbers = [list(numbers) for _, numbers in objects]
        self.own = []
        self.leads = {name: start[at] for at, name in enumerate(self.names)}
        self.sheets = {name: self._sheet(name, None) for name in self.names}

    def _sheet(self, name, worth):
        return [worth for _ in self.house.fields_of(self.routine.kind_of(name))]

    def _place_of(self, name, field):
        return self.house.fields_of(self.routine.kind_of(name)).index(field)

    def number_at(self, name, field):
        """The number of the object of a name at a field."""
        return self.numbers[self.leads[name]][self._place_of(name, field)]

    def shown_by(self, step):
        """What a step shows, None if it shows nothing."""
        if step[0] == "read":
            return self.number_at(step[1], step[2])
        if step[0] == "keep":
            return self.sheets[step[1]][self._place_of(step[1], step[2])]
        return None

    def fault_at(self, node):
        """The fault that the hand makes next at a node, None if it makes none."""
        step = self.spread.points[node[0]].step
        held = locks_of(node[1])
        for name in touched(self.spread, step):
            guard = self.house.guard_of(self.kinds[self.leads[name]])
            if self.leads[name] not in self.own and guard is not None and guard not in held:
                return "bare"
        if step[0] == "keep" and self.shown_by(step) != self.number_at(step[1], step[2]):
            return "stale"
        return None

    def _is_shared_of(self, number, kind):
        return is_index(number, len(self.kinds)) and self.kinds[number] == kind and number not in self.own

    def _allows_moves(self, node, following, moves):
        step = self.spread.points[node[0]].step
        objects = [(kind, number not in self.own) for number, kind in enumerate(self.kinds)]
        passed = [self.leads[name] for name in step[2]]
        held = locks_of(node[1])
        setting = Setting(self.house.hall, objects, *passed, held=held)
        leave = ("leave", given_lock(node, following))
        return is_answer(self.house.signature_of(step[1]), setting, moves + (leave,))

    def allows(self, node, following, answer):
        """True if the answer, any value, may be given at a node ahead of the following one."""
        step = self.spread.points[node[0]].step
        if step[0] == "fetch":
            barred = [self.leads[name] for name in step[2:]]
            return self._is_shared_of(answer, self.routine.kind_of(step[1])) and answer not in barred
        if step[0] == "write":
            return is_integer(answer)
        if step[0] == "call":
            return isinstance(answer, tuple) and self._allows_moves(node, following, answer)
        return answer is None

    def do_step(self, step, answer):
        """Does a step with an answer that it allows."""
        if step[0] == "make":
            self._make(step[1])
        elif step[0] == "copy":
            self.leads[step[1]] = self.leads[step[2]]
            self.sheets[step[1]] = self.sheets[step[2]]
        elif step[0] == "fetch":
            self.leads[step[1]] = answer
            self.sheets[step[1]] = self._sheet(step[1], None)
        elif step[0] == "read":
            self.sheets[step[1]][self._place_of(step[1], step[2])] = self.number_at(step[1], step[2])
        elif step[0] == "write":
            self.numbers[self.leads[step[1]]][self._place_of(step[1], step[2])] = answer
            self.sheets[step[1]][self._place_of(step[1], step[2])] = answer
        elif step[0] == "call":
            self._change(answer)
        shared = [self.leads[name] for name in shared_names(self.spread, step)]
        self.own = [number for number in self.own if number not in shared]

    def _make(self, name):
        number = len(self.kinds)
        self.kinds.append(self.routine.kind_of(name))
        self.numbers.append(self._sheet(name, 0))
        self.own.append(number)
        self.leads[name] = number
        self.sheets[name] = self._sheet(name, 0)

    def _change(self, moves):
        for move in moves:
            if move[0] == "change":
                at = self.house.fields_of(self.kinds[move[1]]).index(move[2])
                self.numbers[move[1]][at] = move[3]
