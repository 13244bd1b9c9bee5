"""A second reading of [34], [35], [53] to [56], [71]: which demands are open in short weavings, by trying all of them.

Numbers are left out, as those that are written or changed can always be new ones: a sheet has at a field "n"
(nothing), "e" (the number of the object) or "d" (another number). Objects to which no name leads are left out,
too, as there can always be one more of them. A body changes numbers at any time between enter and leave.
"""

from run_oracle import kinds_of, successors

from handsroom.spreading import Spread


class Routine:
    """What a hand needs to know of the routine that it runs."""

    def __init__(self, house, name):
        self.name = name
        self.spread = Spread(house, name)
        self.kinds = list(kinds_of(self.spread).values())
        self.names = list(kinds_of(self.spread))
        rows = {row[0]: row for row in house.hall.descriptions}
        self.fields = [rows[kind][2:] for kind in self.kinds]
        self.steps = [point.step for point in self.spread.points]
        self.stop = len(self.steps) - 1

    def at(self, name):
        return self.names.index(name)


class Woven:
    """All weavings of at most so many hands, up to a length.

    A state is a pair (objects, hands): objects has a pair (kind, owner) for each object to which a name leads,
    hands a tuple (routine, node or None, leads, sheets, entries) for each hand; sheets has for each name the
    first name with the same sheet.
    """

    def __init__(self, house, most_hands, longest, most_states=60000):
        self.house = house
        self.most_hands = most_hands
        self.routines = {routine.name: Routine(house, routine.name) for routine in house.routines}
        self.lock_of = {row[0]: row[1] for row in house.hall.descriptions}
        self.marks = {name: signature.marks for name, signature in house.bodies}
        # The least length ahead of an open go for each (routine, point).
        self.opened = {}
        self.is_whole = True
        seen = {((), ()): 0}
        border = [((), ())]
        for length in range(longest + 1):
            pending, later = list(border), []
            while pending:
                state = pending.pop()
                self.note(state, length)
                for cost, after in self.behind(state):
                    if after not in seen or cost == 0 and seen[after] > length:
                        seen[after] = length + cost
                        (later if cost else pending).append(after)
                if len(seen) > most_states:
                    self.is_whole = False
                    return
            border = [state for state in later if seen[state] == length + 1]

    def note(self, state, length):
        for name, node, _, _, entries in state[1]:
            if node is None:
                continue
            routine = self.routines[name]
            step = routine.steps[node[0]]
            if step[0] in ("read", "keep"):
                at = routine.at(step[1])
                if entries[at][routine.fields[at].index(step[2])] != "e":
                    self.opened.setdefault((name, node[0]), length)

    def settled(self, objects, hands):
        """The state in which only objects to which names lead are left, numbered as they are met."""
        numbers = {}
        for _, _, leads, _, _ in hands:
            for number in leads:
                numbers.setdefault(number, len(numbers))
        found = tuple((name, node, tuple(numbers[number] for number in leads), sheets, entries)
                      for name, node, leads, sheets, entries in hands)
        return tuple(objects[number] for number in numbers), found

    def behind(self, state):
        objects, hands = state
        held = [[] if node is None else [lock for _, lock in node[1]] for _, node, _, _, _ in hands]
        found = []
        if len(hands) < self.most_hands:
            found += [(0, after) for name in self.routines for after in self.starts(state, name)]
        for hand, (name, node, _, _, _) in enumerate(hands):
            if node is None:
                continue
            routine = self.routines[name]
            step = routine.steps[node[0]]
            if node[0] == routine.stop:
                gone = (name, None, (), (), ())
                found.append((1, self.settled(objects, hands[:hand] + (gone,) + hands[hand + 1:])))
                continue
            taken = [lock for other, locks in enumerate(held) if other != hand for lock in locks]
            for after in successors(routine.spread, node):
                if len(after[1]) <= len(node[1]) or after[1][-1][1] not in taken:
                    found += [(1, one) for one in self.goes(objects, hands, hand, step, after)]
            if step[0] == "call":
                locks = [lock for row in held for lock in row]
                found += [(0, one) for one in self.strikes(objects, hands, hand, step, locks)]
        return found

    def starts(self, state, name):
        objects, hands = state
        routine = self.routines[name]
        pending = [(objects, ())]
        for kind in routine.kinds:
            grown = []
            for told, leads in pending:
                grown += [(told, leads + (number,)) for number, one in enumerate(told) if one == (kind, None)]
                grown.append((told + ((kind, None),), leads + (len(told),)))
            pending = grown
        blank = tuple(("n",) * len(fields) for fields in routine.fields)
        sheets = tuple(range(len(routine.kinds)))
        return [self.settled(told, hands + ((name, (0, ()), leads, sheets, blank),)) for told, leads in pending]

    def with_name(self, hand, at, lead, sheet, entries):
        """The hand whose name at an index leads to an object and has a sheet with these entries."""
        name, node, leads, sheets, rows = hand
        leads = leads[:at] + (lead,) + leads[at + 1:]
        rows = rows[:at] + (entries,) + rows[at + 1:]
        told = list(sheets)
        others = [one for one in range(len(told)) if one != at and told[one] == told[at]]
        for one in others:
            told[one] = others[0]
        told[at] = at
        if sheet is not None:
            group = [one for one in range(len(told)) if told[one] == told[sheet]] + [at]
            for one in group:
                told[one] = min(group)
        return (name, node, leads, tuple(told), rows)

    def struck(self, hands, number, kind, field, but=None):
        """The hands whose sheets have another number than the object now; but is the pair (hand, sheet) that has it."""
        found = []
        for hand, (name, node, leads, sheets, rows) in enumerate(hands):
            routine = self.routines[name]
            told = []
            for at, row in enumerate(rows):
                if leads[at] == number and routine.kinds[at] == kind:
                    place = routine.fields[at].index(field)
                    entry = "e" if but == (hand, sheets[at]) else "d" if row[place] == "e" else row[place]
                    row = row[:place] + (entry,) + row[place + 1:]
                told.append(row)
            found.append((name, node, leads, sheets, tuple(told)))
        return tuple(found)

    def goes(self, objects, hands, hand, step, after):
        mine = hands[hand]
        routine = self.routines[mine[0]]
        mine = (mine[0], after) + mine[2:]
        word = step[0]

        def done(told, changed):
            return self.settled(told, hands[:hand] + (changed,) + hands[hand + 1:])
        if word in ("make", "fetch", "copy", "read", "write"):
            x = routine.at(step[1])
            kind, many = routine.kinds[x], len(routine.fields[x])
        if word == "make":
            return [done(objects + ((kind, hand),), self.with_name(mine, x, len(objects), None, ("e",) * many))]
        if word == "fetch":
            barred = [mine[2][routine.at(z)] for z in step[2:]]
            grown = objects + ((kind, None),)
            return [done(grown, self.with_name(mine, x, number, None, ("n",) * many))
                    for number, one in enumerate(grown) if one == (kind, None) and number not in barred]
        if word == "copy":
            y = routine.at(step[2])
            if mine[3][x] == mine[3][y]:
                return [done(objects, mine)]
            return [done(objects, self.with_name(mine, x, mine[2][y], y, mine[4][y]))]
        if word in ("read", "write"):
            moved = hands[:hand] + (mine,) + hands[hand + 1:]
            if word == "write":
                return [self.settled(objects, self.struck(moved, mine[2][x], kind, step[2], (hand, mine[3][x])))]
            place = routine.fields[x].index(step[2])
            rows = tuple(row[:place] + ("e",) + row[place + 1:] if mine[3][at] == mine[3][x] else row
                         for at, row in enumerate(mine[4]))
            return [done(objects, mine[:4] + (rows,))]
        shared = []
        if word == "put":
            shared = [mine[2][routine.at(step[1])]]
        if word == "call":
            shared = [mine[2][routine.at(step[2][mark[1]])] for mark in self.marks[step[1]] if mark[0] == "shares"]
        return [done(tuple((kind, None if number in shared else owner) for number, (kind, owner) in enumerate(objects)),
                     mine)]

    def strikes(self, objects, hands, hand, step, held):
        marks, found = self.marks[step[1]], []
        routine = self.routines[hands[hand][0]]
        passed = [hands[hand][2][routine.at(name)] for name in step[2]]
        for mark in marks:
            for number, (kind, owner) in enumerate(objects):
                if mark[:2] != ("writes", kind):
                    continue
                lock = self.lock_of[kind]
                inside = lock is None or ("takes", lock) in marks and lock not in held
                if number in passed or owner is None and inside:
                    found.append(self.settled(objects, self.struck(hands, number, kind, mark[2])))
        return found
