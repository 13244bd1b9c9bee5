"""Products: two hands and an object that they may have in common ([72] to [75])."""

from handsroom.errors import NoState, NoSuch, TooLarge
from handsroom.judging import is_demand
from handsroom.lonetable import is_node
from handsroom.pairing import OVER, Side, guard_locks
from handsroom.spreading import Spread

_FIRST = ((None, ()), (None, ()), "none", "nothing")


def _is_side_state(value):
    if not isinstance(value, tuple) or len(value) != 2:
        return False
    node, names = value
    if node is not None and node != OVER and not is_node(node):
        return False
    return isinstance(names, tuple) and all([isinstance(name, str) for name in names])


def _is_state(value):
    """True if the value, any value, has the form of a state."""
    if not isinstance(value, tuple) or len(value) != 4:
        return False
    sides = _is_side_state(value[0]) and _is_side_state(value[1])
    return sides and isinstance(value[2], str) and isinstance(value[3], str)


def _settled(keeper, other, common, mark):
    """The state of these parts, where marks and objects that no name has are gone."""
    if len(keeper[1]) == 0:
        mark = "nothing"
        if len(other[1]) == 0:
            common = "none"
    return (keeper, other, common, mark)


class Product:
    """The states of two hands that run two routines, for one sort."""

    MOST_STATES = 4000

    def __init__(self, house, keeper, other, kind, field):
        spreads = (Spread(house, keeper), Spread(house, other))
        if field not in house.fields_of(kind):
            raise NoSuch(field)
        self.house = house
        self.keeper = keeper
        self.other = other
        self.kind = kind
        self.field = field
        self._sides = (Side(spreads[0], kind, field, True), Side(spreads[1], kind, field, False))
        self._distances = {_FIRST: 0}
        self._parents = {_FIRST: None}
        self._steps = {}
        self._find_states()
        self.states = tuple(list(self._steps))

    def _find_states(self):
        """Finds all states by ascending distance: a step of length 0 leads into the level of its own state."""
        level = [_FIRST]
        while len(level) > 0:
            later = []
            at = 0
            while at < len(level):
                state = level[at]
                self._steps[state] = self._steps_from(state)
                for _, length, reached in self._steps[state]:
                    if length > 0:
                        later.append((state, reached))
                    elif self._finds(state, reached, 0):
                        level.append(reached)
                at += 1
            level = []
            for state, reached in later:
                if self._finds(state, reached, 1):
                    level.append(reached)

    def _finds(self, state, reached, length):
        """Notes a state to which a step of some length leads, True if it was not found before."""
        if reached in self._distances:
            return False
        if len(self._distances) >= self.MOST_STATES:
            raise TooLarge("states")
        self._distances[reached] = self._distances[state] + length
        self._parents[reached] = state
        return True

    def _steps_from(self, state):
        steps = self._steps_of(0, state) + self._steps_of(1, state)
        if self._can_strike(state):
            steps.append((1, 0, state[:3] + ("struck",)))
        return tuple(steps)

    def _steps_of(self, hand, state):
        """The steps of a hand but for strikes."""
        side = self._sides[hand]
        node, names = state[hand]
        if side.stands_at_stop(node):
            return [(1, 1, _settled(state[0], (OVER, ()), state[2], state[3]))] if hand == 1 else []
        found = []
        for reached in side.nodes_behind(node, guard_locks(state[1 - hand][0])):
            for changed, common, mark in side.outcomes(node, names, state[2], state[3]):
                moved = (reached, changed)
                pair = (moved, state[1]) if hand == 0 else (state[0], moved)
                found.append((hand, 0 if node is None else 1, _settled(pair[0], pair[1], common, mark)))
        return found

    def _can_strike(self, state):
        """True if the body that the other hand calls can change the number of the common object."""
        keeper, (node, names), common, mark = state
        if mark != "fresh" or common != "shared" or node is None or node == OVER:
            return False
        step = self._sides[1].step_at(node)
        if step[0] != "call":
            return False
        signature = self.house.signature_of(step[1])
        if (self.kind, self.field) not in signature.writes:
            return False
        guard = self.house.guard_of(self.kind)
        if guard is None or any([name in names for name in step[2]]):
            return True
        return guard in signature.takes and guard not in guard_locks(keeper[0]) + guard_locks(node)

    def __len__(self):
        return len(self.states)

    def __iter__(self):
        return iter(self.states)

    def __contains__(self, state):
        return _is_state(state) and state in self._distances

    def steps_at(self, state):
        """The steps from a state: triples (hand, length, state to which the step leads)."""
        return self._steps[state]

    def distance_to(self, state):
        """The least length of a way to a state."""
        if state not in self:
            raise NoState(state)
        return self._distances[state]

    def way_to(self, state):
        """A way of the least length to a state."""
        if state not in self:
            raise NoState(state)
        way = []
        while state is not None:
            way.append(state)
            state = self._parents[state]
        return tuple(way[::-1])

    def is_open(self, state):
        """True if the keeper stands at a demand that shows a number that was struck."""
        (node, names), _, _, mark = state
        if mark != "struck":
            return False
        step = self._sides[0].step_at(node)
        return is_demand(step) and step[1] in names and step[2] == self.field

    def open_states(self):
        """The open states, by ascending distance."""
        return tuple([state for state in self.states if self.is_open(state)])
