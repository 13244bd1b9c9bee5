"""Marked records: at which fields the sheet of a name has the number of its object ([41] to [43])."""

from handsroom.records import Record, first_record, names_in, record_after, relation, routine_in


class Marked(Record):
    """A record that also tells which names are known at which fields."""

    def __init__(self, blocks, own, apart, known):
        super().__init__(blocks, own, apart)
        self.known = known

    def knows(self, name, field):
        """True if the name is known at the field."""
        return (name, field) in self.known

    def key(self):
        """A value that two marked records have in common if they are equal."""
        return (self.blocks, self.own, self.apart, self.known)

    def as_sure_as(self, other):
        """True if this one is as sure as the other and knows all that the other knows."""
        return super().as_sure_as(other) and all([pair in self.known for pair in other.known])


def first_marked(spread):
    """The marked record ahead of all steps."""
    first = first_record(spread)
    return Marked(first.blocks, first.own, first.apart, ())


def _pairs(spread):
    """The pairs of a name and a field of its kind, in order."""
    house = spread.house
    return [(name, field) for name, kind in routine_in(spread).names for field in house.fields_of(kind)]


def _may_reach(spread, held, record, step, name):
    """True if the body that a step calls may reach the object of a name."""
    if any([relation(spread, record, passed, name) != "apart" for passed in step[2]]):
        return True
    guard = spread.house.guard_of(routine_in(spread).kind_of(name))
    inside = guard is None or guard in spread.house.signature_of(step[1]).takes and guard not in held
    return inside and name not in record.own


def _stays_behind_call(spread, held, record, step, name, field):
    """True if a number that is known stays known behind a call."""
    written = (routine_in(spread).kind_of(name), field) in spread.house.signature_of(step[1]).writes
    return not written or not _may_reach(spread, held, record, step, name)


def _is_known_behind(spread, held, record, step, name, field):
    word = step[0]
    if word in ("make", "copy", "fetch") and name == step[1]:
        return word == "make" or word == "copy" and record.knows(step[2], field)
    if word in ("read", "write") and field == step[2] and name in record.block_of(step[1]):
        return True
    if not record.knows(name, field):
        return False
    if word == "write" and field == step[2]:
        return relation(spread, record, name, step[1]) != "maybe"
    return word != "call" or _stays_behind_call(spread, held, record, step, name, field)


def marked_after(spread, held, record, step):
    """The marked record behind a step of a hand that holds some locks by its guards."""
    behind = record_after(spread, record, step)
    known = [pair for pair in _pairs(spread) if _is_known_behind(spread, held, record, step, pair[0], pair[1])]
    return Marked(behind.blocks, behind.own, behind.apart, tuple(known))


def lost(spread, record, sorts):
    """The marked record that has lost some sorts."""
    routine = routine_in(spread)
    shared = [name for name in names_in(spread) if name not in record.own]
    gone = [(name, field) for name in shared for kind, field in sorts if routine.kind_of(name) == kind]
    known = tuple([pair for pair in record.known if pair not in gone])
    return Marked(record.blocks, record.own, record.apart, known)
