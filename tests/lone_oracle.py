"""A second reading of [34], [35]: which objects the names of a hand can lead to in its lone runs, by trying everything.

A state is a tuple (node, leads, own): leads has for each object name the number of its object, numbered as the names
meet them, own the own objects among these. Objects to which no name leads are left out, as there can always be
one more shared object.
"""

from run_oracle import kinds_of, successors


class Wanderer:
    def __init__(self, spread, most=20000):
        self.spread = spread
        self.kinds = kinds_of(spread)
        self.names = list(self.kinds)
        self.is_whole = True
        seen = {}
        pending = [self.settled((0, ()), leads, ()) for leads in self.starts()]
        while pending:
            state = pending.pop()
            if state in seen:
                continue
            seen[state] = True
            if len(seen) > most:
                self.is_whole = False
                break
            pending += self.behind(state)
        self.states = list(seen)

    def settled(self, node, leads, own):
        numbers = {}
        for number in leads:
            numbers.setdefault(number, len(numbers))
        return node, tuple(numbers[number] for number in leads), tuple(sorted(numbers[one] for one in own if one in numbers))

    def starts(self):
        found = [()]
        for at, name in enumerate(self.names):
            grown = []
            for leads in found:
                alike = {leads[k] for k in range(at) if self.kinds[self.names[k]] == self.kinds[name]}
                grown += [leads + (number,) for number in alike | {max(leads, default=-1) + 1}]
            found = grown
        return found

    def step(self, state):
        return self.spread.points[state[0][0]].step

    def held(self, state):
        return tuple(lock for _, lock in state[0][1])

    def lead(self, state, name):
        return state[1][self.names.index(name)]

    def is_own(self, state, name):
        return self.lead(state, name) in state[2]

    def behind(self, state):
        node, leads, own = state
        step, found = self.step(state), []
        changed = [(leads, own)]
        fresh = max(leads, default=-1) + 1
        if step[0] in ("make", "fetch", "copy"):
            at = self.names.index(step[1])

            def led(number):
                return leads[:at] + (number,) + leads[at + 1:]
            if step[0] == "make":
                changed = [(led(fresh), own + (fresh,))]
            elif step[0] == "copy":
                changed = [(led(self.lead(state, step[2])), own)]
            else:
                barred = [self.lead(state, name) for name in step[2:]] + list(own)
                alike = {leads[k] for k, name in enumerate(self.names) if self.kinds[name] == self.kinds[step[1]]}
                changed = [(led(number), own) for number in (alike | {fresh}) - set(barred)]
        shared = [step[1]] if step[0] == "put" else []
        if step[0] == "call":
            marks = self.spread.house.signature_of(step[1]).marks
            shared = [step[2][mark[1]] for mark in marks if mark[0] == "shares"]
        gone = [self.lead(state, name) for name in shared]
        for after in successors(self.spread, node):
            found += [self.settled(after, now, [one for one in mine if one not in gone]) for now, mine in changed]
        return found
