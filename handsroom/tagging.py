"""Tables of tags: which names of a routine lead to the objects of its arguments ([90])."""

from handsroom.plain import is_integer
from handsroom.records import Record, first_record, names_in, record_after, shared_names
from handsroom.tables import RoomTable

_MADE = "made"
_FOUND = "found"


class Tagged(Record):
    """A record with a tag for each object name, in their order."""

    def __init__(self, blocks, own, apart, tags):
        super().__init__(blocks, own, apart)
        self.tags = tags

    def key(self):
        """A value that two of them have in common if they are equal."""
        return (self.blocks, self.own, self.apart, self.tags)


class TagTable(RoomTable):
    """The nodes of a routine with the tagged records that reach them; arguments are some of its names."""

    def __init__(self, spread, arguments):
        self.arguments = tuple(arguments)
        super().__init__(spread)

    def _first(self):
        first = first_record(self.spread)
        names = names_in(self.spread)
        tags = [self.arguments.index(name) if name in self.arguments else _FOUND for name in names]
        return Tagged(first.blocks, first.own, first.apart, tuple(tags))

    def _tag_behind(self, record, step, name):
        if step[0] not in ("make", "fetch", "copy") or name != step[1]:
            return self.tag_of(record, name)
        if step[0] == "copy":
            return self.tag_of(record, step[2])
        return _MADE if step[0] == "make" else _FOUND

    def _behind(self, node, record):
        step = self.spread.points[node[0]].step
        behind = record_after(self.spread, record, step)
        tags = [self._tag_behind(record, step, name) for name in names_in(self.spread)]
        return Tagged(behind.blocks, behind.own, behind.apart, tuple(tags))

    def tag_of(self, record, name):
        """The tag of a name in a record of this table."""
        return record.tags[names_in(self.spread).index(name)]

    def step_of_spot(self, spot):
        """The step of the node of a spot."""
        return self.spread.points[spot.node[0]].step

    def shared_positions(self, spot):
        """The positions of the arguments that the step of a spot shares."""
        names = shared_names(self.spread, self.step_of_spot(spot))
        tags = [self.tag_of(spot.record, name) for name in names]
        return tuple([tag for tag in tags if is_integer(tag)])
