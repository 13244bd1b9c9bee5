"""A second reading of [72] to [74]: two hands that walk, with the objects of their names and one sheet.

A state is laid out as a world: each name leads to the common object "C" or to an object of its own, and
the common object and the sheet of the keeper's names have numbers. A step is done on the world.
"""

from run_oracle import kinds_of, successors

from handsroom.spreading import Spread

NOT_STARTED, OVER = None, (None, ())
WORDS = ("keeper", "other")
FIRST = ((NOT_STARTED, ()), (NOT_STARTED, ()), "none", "nothing")
# The numbers of the common object and of the sheet for each mark.
NUMBERS = {"nothing": (5, None), "fresh": (5, 5), "struck": (5, 3)}


class World:
    def __init__(self, pair, state):
        self.pair = pair
        self.nodes = [state[0][0], state[1][0]]
        self.leads = [{name: "C" if name in state[hand][1] else (hand, name) for name in pair.kinds[hand]}
                      for hand in (0, 1)]
        # The hand that owns the common object; None if it is shared, "gone" if there is none.
        self.owner = {"none": "gone", "shared": None, "keeper": 0, "other": 1}[state[2]]
        self.number, self.sheet = NUMBERS[state[3]]

    def names(self, hand):
        return tuple(name for name in self.pair.kinds[hand] if self.leads[hand][name] == "C")

    def state(self):
        """The state in which the world is now."""
        mine, others = self.names(0), self.names(1)
        common = "none" if not mine and not others else "shared" if self.owner is None else WORDS[self.owner]
        mark = "fresh" if self.sheet == self.number else "struck"
        if not mine or self.sheet is None:
            mark = "nothing"
        return ((self.nodes[0], mine), (self.nodes[1], others), common, mark)

    def lead(self, hand, name):
        """Leads a name to a common object that is found."""
        self.leads[hand][name] = "C"
        self.owner = None
        if hand == 0:
            self.sheet = None

    def make(self, hand, name):
        self.leads[hand][name] = "C"
        self.owner, self.number = hand, 0
        if hand == 0:
            self.sheet = 0

    def do(self, hand, step):
        """Does a step that does not lead a name to the common object."""
        leads = self.leads[hand]
        word = step[0]
        if word in ("make", "fetch"):
            leads[step[1]] = "own"
        elif word == "copy":
            leads[step[1]] = leads[step[2]]
        elif word in ("read", "write") and leads[step[1]] == "C" and step[2] == self.pair.field:
            if word == "write":
                self.number = 9
            if hand == 0:
                self.sheet = self.number
        for name in self.pair.put_by(hand, step):
            if leads[name] == "C":
                self.owner = None


class Pair:
    def __init__(self, house, keeper, other, kind, field):
        self.house = house
        self.spreads = (Spread(house, keeper), Spread(house, other))
        self.kinds = [kinds_of(spread) for spread in self.spreads]
        self.kind, self.field = kind, field
        self.lock = {row[0]: row[1] for row in house.hall.descriptions}[kind]

    def step_at(self, hand, node):
        return self.spreads[hand].points[node[0]].step

    def put_by(self, hand, step):
        """The names whose objects a step makes shared."""
        if step[0] == "put":
            return [step[1]]
        if step[0] != "call":
            return []
        return [step[2][mark[1]] for mark in self.house.signature_of(step[1]).marks if mark[0] == "shares"]

    def locks(self, node):
        return [] if node is None else [lock for _, lock in node[1]]

    def steps(self, state):
        found = set()
        for hand in (0, 1):
            node = state[hand][0]
            if node is NOT_STARTED:
                found |= {(hand, 0, after) for after in self.starts(hand, state)}
            elif node != OVER and self.step_at(hand, node)[0] == "stop":
                if hand == 1:
                    world = World(self, state)
                    world.nodes[1] = OVER
                    world.leads[1] = {name: "own" for name in world.leads[1]}
                    found.add((1, 1, world.state()))
            elif node != OVER:
                found |= {(hand, 1, after) for after in self.goes(hand, state)}
        return found | self.strikes(state)

    def starts(self, hand, state):
        found = []
        for chosen in [None] + list(self.kinds[hand]):
            world = World(self, state)
            world.nodes[hand] = (0, ())
            if chosen is not None:
                if self.kinds[hand][chosen] != self.kind or world.owner not in (None, "gone"):
                    continue
                world.lead(hand, chosen)
            found.append(world.state())
        return found

    def goes(self, hand, state):
        node = state[hand][0]
        step = self.step_at(hand, node)
        for after in successors(self.spreads[hand], node):
            if len(after[1]) > len(node[1]) and after[1][-1][1] in self.locks(state[1 - hand][0]):
                continue
            for leading in (False, True):
                world = World(self, state)
                world.nodes[hand] = after
                if leading:
                    if step[0] not in ("make", "fetch") or self.kinds[hand][step[1]] != self.kind:
                        continue
                    if step[0] == "make":
                        if world.owner != "gone":
                            continue
                        world.make(hand, step[1])
                    else:
                        rest = [name for name in world.names(hand) if name != step[1]]
                        if world.owner not in (None, "gone") or rest or "C" in [
                                world.leads[hand][name] for name in step[2:]]:
                            continue
                        world.lead(hand, step[1])
                else:
                    world.do(hand, step)
                yield world.state()

    def strikes(self, state):
        node = state[1][0]
        if state[2:] != ("shared", "fresh") or node in (NOT_STARTED, OVER):
            return set()
        step = self.step_at(1, node)
        if step[0] != "call":
            return set()
        marks = self.house.signature_of(step[1]).marks
        if ("writes", self.kind, self.field) not in marks:
            return set()
        held = self.locks(state[0][0]) + self.locks(node)
        reach = "C" in [World(self, state).leads[1][name] for name in step[2]]
        if not reach and self.lock is not None and (("takes", self.lock) not in marks or self.lock in held):
            return set()
        return {(1, 0, state[:3] + ("struck",))}

    def distances(self, most=10 ** 9):
        """The least length of a way to each state, None if there are more states than most."""
        found = {FIRST: 0}
        border = [FIRST]
        while border:
            pending, later = list(border), []
            while pending:
                state = pending.pop()
                for _, length, after in self.steps(state):
                    if after in found:
                        continue
                    if length:
                        later.append((found[state] + 1, after))
                    else:
                        found[after] = found[state]
                        pending.append(after)
                if len(found) > most:
                    return None
            border = []
            for distance, after in later:
                if after not in found:
                    found[after] = distance
                    border.append(after)
        return found

    def is_open(self, state):
        node, names = state[0]
        if node is None:
            return False
        step = self.step_at(0, node)
        return step[0] in ("read", "keep") and step[1] in names and step[2] == self.field and state[3] == "struck"


def pairs_of(house):
    """The arguments of all products of a house."""
    names = [routine.name for routine in house.routines]
    return [(keeper, other, row[0], field) for keeper in names for other in names for row in house.hall.descriptions
            for field in row[2:]]
