"""Records: which names lead to one object, and which objects are own ([31], [32])."""


class Record:
    """What is known of the objects of the names at a moment."""

    def __init__(self, blocks, own, apart):
        self.blocks = blocks
        self.own = own
        self.apart = apart

    def block_of(self, name):
        """The block of a name."""
        return [block for block in self.blocks if name in block][0]

    def key(self):
        """A value that two records have in common if they are equal."""
        return (self.blocks, self.own, self.apart)

    def as_sure_as(self, other):
        """True if this one has the blocks of the other and all that it has in own and apart."""
        own = all([name in self.own for name in other.own])
        return self.blocks == other.blocks and own and all([pair in self.apart for pair in other.apart])


def routine_in(spread):
    """The routine of a spread form."""
    return spread.house.routine_of(spread.name)


def names_in(spread):
    """The object names of the routine of a spread form, in order."""
    return tuple([name for name, _ in routine_in(spread).names])


def first_record(spread):
    """The record ahead of all steps."""
    return Record(tuple([(name,) for name in names_in(spread)]), (), ())


def _ordered(names, blocks, own, apart):
    """The record of these parts, which may be in any order and hold a pair both ways round."""
    sorted_blocks = [tuple([name for name in names if name in block]) for block in blocks]
    pairs = [(x, y) for at, x in enumerate(names) for y in names[at + 1:] if (x, y) in apart or (y, x) in apart]
    firsts = [block for name in names for block in sorted_blocks if block[0] == name]
    return Record(tuple(firsts), tuple([name for name in names if name in own]), tuple(pairs))


def _without(record, x):
    """The parts (blocks, own, apart) of a record behind x leaves its block."""
    blocks = [tuple([name for name in block if name != x]) for block in record.blocks]
    own = [name for name in record.own if name != x]
    apart = [pair for pair in record.apart if x not in pair]
    return [block for block in blocks if len(block) > 0] + [(x,)], own, apart


def _of_kind(spread, x):
    """The names of the kind of x other than x."""
    routine = routine_in(spread)
    return [name for name, kind in routine.names if kind == routine.kind_of(x) and name != x]


def _made(spread, record, x):
    blocks, own, apart = _without(record, x)
    pairs = apart + [(x, name) for name in _of_kind(spread, x)]
    return _ordered(names_in(spread), blocks, own + [x], pairs)


def _copied(spread, record, x, y):
    if x in record.block_of(y):
        return record
    blocks, own, apart = _without(record, x)
    joined = [block + (x,) if y in block else block for block in blocks if block != (x,)]
    marked = own + [x] if y in own else own
    pairs = apart + [(x, name) for pair in apart for name in pair if y in pair and name != y]
    return _ordered(names_in(spread), joined, marked, pairs)


def _fetched(spread, record, x, others):
    noted = [name for other in others for name in record.block_of(other)]
    blocks, own, apart = _without(record, x)
    pairs = apart + [(x, name) for name in _of_kind(spread, x) if name in own or name in noted]
    return _ordered(names_in(spread), blocks, own, pairs)


def _shared(record, names):
    """The record behind the objects of these names become shared."""
    gone = [one for name in names for one in record.block_of(name)]
    return Record(record.blocks, tuple([name for name in record.own if name not in gone]), record.apart)


def shared_names(spread, step):
    """The names whose objects a put or a call shares."""
    if step[0] == "put":
        return (step[1],)
    if step[0] != "call":
        return ()
    return tuple([step[2][at] for at in spread.house.signature_of(step[1]).shares])


def record_after(spread, record, step):
    """The record behind a step."""
    plain = Record(record.blocks, record.own, record.apart)
    if step[0] == "make":
        return _made(spread, plain, step[1])
    if step[0] == "copy":
        return _copied(spread, plain, step[1], step[2])
    if step[0] == "fetch":
        return _fetched(spread, plain, step[1], step[2:])
    return _shared(plain, shared_names(spread, step))


def relation(spread, record, x, y):
    """How the objects of two names are related: "same", "apart" or "maybe"."""
    if y in record.block_of(x):
        return "same"
    routine = routine_in(spread)
    if routine.kind_of(x) != routine.kind_of(y) or (x, y) in record.apart or (y, x) in record.apart:
        return "apart"
    return "maybe"


def records(spread, path):
    """Yields the record at each node of a lone path, in order."""
    record = first_record(spread)
    for at, node in enumerate(path):
        if at > 0:
            record = record_after(spread, record, spread.points[path[at - 1][0]].step)
        yield record
