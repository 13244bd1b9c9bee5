"""A second reading of [34] to [36] and [44]: what sheets can have at the end of a lone path, by trying all runs.

A sheet has at a field "n" (nothing), "e" (the number of the object) or "d" (another number); numbers
that are written or changed are always new ones, so no more needs to be told.
"""

from run_oracle import kinds_of


class Sheets:
    """The states of one hand in all runs of a lone path.

    A state is (leads, kinds of the objects, own objects, sheet of each name, entries of each name).
    """

    def __init__(self, spread, path, spare=2):
        self.spread = spread
        self.kinds = kinds_of(spread)
        self.names = list(self.kinds)
        self.rows = {row[0]: row for row in spread.house.hall.descriptions}
        steps = [spread.points[node[0]].step for node in path[:-1]]
        fetches = sum(step[0] == "fetch" for step in steps)
        firsts = []
        for kind in spread.house.kinds:
            many = sum(known == kind for known in self.kinds.values()) + min(fetches, spare)
            firsts += [kind] * max(many, 1)
        blank = tuple(tuple("n" for _ in self.fields(name)) for name in self.names)
        self.states = {((), tuple(firsts), (), tuple(range(len(self.names))), blank)}
        for name in self.names:
            self.states = {(state[0] + (at,),) + state[1:] for state in self.states
                           for at, kind in enumerate(state[1]) if kind == self.kinds[name]}
        for node, step in zip(path, steps):
            held = [lock for _, lock in node[1]]
            self.states = {after for state in self.states for after in self.behind(state, step, held)}

    def fields(self, name):
        return self.rows[self.kinds[name]][2:]

    def put(self, state, x, lead, sheet, entries):
        """The state in which x leads to an object and has a sheet with these entries."""
        at = self.names.index(x)
        leads, objects, own, sheets, rows = state
        fill = [lambda row, new: row[:at] + (new,) + row[at + 1:]][0]
        return (fill(leads, lead), objects, own, fill(sheets, sheet), fill(rows, entries))

    def marked(self, state, changes):
        """The state with other entries; changes takes (index of a name, field, entry) to an entry."""
        rows = tuple(tuple(changes(at, field, entry) for field, entry in zip(self.fields(name), state[4][at]))
                     for at, name in enumerate(self.names))
        return state[:4] + (rows,)

    def behind(self, state, step, held):
        leads, objects, own, sheets, rows = state
        word = step[0]
        x = step[1] if len(step) > 1 else None
        fresh = max(sheets, default=0) + 1
        if word == "make":
            grown = (leads, objects + (self.kinds[x],), own + (len(objects),), sheets, rows)
            return [self.put(grown, x, len(objects), fresh, tuple("e" for _ in self.fields(x)))]
        if word == "copy":
            y = self.names.index(step[2])
            return [self.put(state, x, leads[y], sheets[y], rows[y])]
        if word == "fetch":
            barred = [leads[self.names.index(z)] for z in step[2:]] + list(own)
            return [self.put(state, x, number, fresh, tuple("n" for _ in self.fields(x)))
                    for number, kind in enumerate(objects) if kind == self.kinds[x] and number not in barred]
        if word in ("read", "write"):
            me = self.names.index(x)

            def entry_behind(at, field, entry):
                if field != step[2] or leads[at] != leads[me]:
                    return entry
                if sheets[at] == sheets[me]:
                    return "e"
                return "d" if word == "write" and entry == "e" else entry
            return [self.marked(state, entry_behind)]
        if word == "put":
            return [(leads, objects, tuple(one for one in own if one != leads[self.names.index(x)]), sheets, rows)]
        return self.behind_call(state, step, held) if word == "call" else [state]

    def reach(self, state, step, held):
        """The pairs (object, field) that the body of a call can change."""
        leads, objects, own, _, _ = state
        marks = self.spread.house.signature_of(step[1]).marks
        passed = [leads[self.names.index(name)] for name in step[2]]
        found = set()
        for number, kind in enumerate(objects):
            lock = self.rows[kind][1]
            inside = lock is None or ("takes", lock) in marks and lock not in held
            if number in passed or number not in own and inside:
                found |= {(number, mark[2]) for mark in marks if mark[:2] == ("writes", kind)}
        return found

    def behind_call(self, state, step, held):
        reach = self.reach(state, step, held)

        def struck(at, field, entry):
            return "d" if entry == "e" and (state[0][at], field) in reach else entry
        found = []
        marks = self.spread.house.signature_of(step[1]).marks
        passed = [state[0][self.names.index(name)] for name in step[2]]
        shared = [passed[mark[1]] for mark in marks if mark[0] == "shares"]
        for after in (state, self.marked(state, struck)):
            own = tuple(one for one in after[2] if one not in shared)
            found.append(after[:2] + (own,) + after[3:])
        return found

    def entries(self, name, field):
        """The entries that the sheet of a name can have at a field at the end."""
        at = self.names.index(name)
        return {state[4][at][self.fields(name).index(field)] for state in self.states}
