"""A second reading of [8], [25], [53] to [57]: what hands hold and want in weavings, by trying everything.

Objects and numbers are left out: no refusal depends on them, and there are objects enough for each fetch. The
state of a hand is a tuple (routine, node or None, own stack or None, wanted lock inside a call or None).
"""

from run_oracle import successors

from handsroom.spreading import Spread


class Locks:
    def __init__(self, house):
        self.house = house
        self.spreads = {routine.name: Spread(house, routine.name) for routine in house.routines}
        self.marks = {name: signature.marks for name, signature in house.bodies}
        self.known = {}

    def step(self, state):
        return self.spreads[state[0]].points[state[1][0]].step

    def held(self, state):
        if state[1] is None:
            return ()
        return tuple(lock for _, lock in state[1][1]) + (state[2] or ())

    def wants(self, state):
        if state[1] is None:
            return None
        step = self.step(state)
        return step[1] if step[0] == "take" else state[3]

    def starts(self):
        return [(name, (0, ()), None, None) for name in self.spreads]

    def behind(self, state):
        """The triples (length, lock that is taken or None, state behind) of the moves of a hand."""
        if state not in self.known:
            self.known[state] = self.moves(state)
        return self.known[state]

    def moves(self, state):
        name, node, stack, wanted = state
        if node is None:
            return []
        spread, step = self.spreads[name], self.step(state)
        if step[0] == "stop":
            return [(1, None, (name, None, None, None))]
        if step[0] != "call":
            taken = step[1] if step[0] == "take" else None
            return [(1, taken, (name, after, None, None)) for after in successors(spread, node)]
        if stack is None:
            return [(0, None, (name, node, (), None))]
        if wanted is not None:
            return [] if wanted in self.held(state) else [(0, wanted, (name, node, stack + (wanted,), None))]
        marks = self.marks[step[1]]
        found = [(0, None, (name, node, stack, lock)) for lock in self.house.locks if ("takes", lock) in marks
                 and all(("under", one, lock) in marks for one in stack)]
        if stack:
            found.append((0, None, (name, node, stack[:-1], None)))
        gives = [mark[1] for mark in marks if mark[0] == "gives"]
        following = spread.points[node[0]].nexts[0]
        if gives and len(stack) == 1 and stack[0] in gives:
            found.append((1, None, (name, (following, node[1] + ((step[3], stack[0]),)), None, None)))
        if not gives and not stack:
            found.append((1, None, (name, (following, node[1]), None, None)))
        return found

    def lone_states(self, longest=None):
        """The least length of a lone run to each state of a hand."""
        found, border, length = {}, self.starts(), 0
        while border and (longest is None or length <= longest):
            later, pending = [], list(border)
            while pending:
                state = pending.pop()
                if state in found:
                    continue
                found[state] = length
                for cost, taken, after in self.behind(state):
                    if taken is None or taken not in self.held(state):
                        (later if cost else pending).append(after)
            border, length = later, length + 1
        return found

    def ring(self, states):
        """True if some of the hands wait for one another in a ring."""
        holders = {lock: hand for hand, state in enumerate(states) for lock in self.held(state)}
        for hand in range(len(states)):
            at, seen = hand, []
            while at is not None and at not in seen:
                seen.append(at)
                at = holders.get(self.wants(states[at]))
            if at == hand:
                return True
        return False

    def least_ring(self, hands, most=40000):
        """The least length of a weaving of so many hands to a ring; None if there is none, -1 if it is too much."""
        first = ()
        found, border, length = {}, [first], 0
        while border:
            later, pending = [], list(border)
            while pending:
                states = pending.pop()
                if states in found:
                    continue
                found[states] = length
                if len(found) > most:
                    return -1
                if self.ring(states):
                    return length
                if len(states) < hands:
                    pending += [tuple(sorted(states + (start,), key=repr)) for start in self.starts()]
                held = [lock for state in states for lock in self.held(state)]
                for hand, state in enumerate(states):
                    for cost, taken, after in self.behind(state):
                        if taken is None or taken not in held:
                            moved = tuple(sorted(states[:hand] + (after,) + states[hand + 1:], key=repr))
                            (later if cost else pending).append(moved)
            border, length = later, length + 1
        return None
