"""Held tables that reckon with the writes of other hands ([79])."""

from handsroom.judging import HeldTable
from handsroom.lonetable import locks_of
from handsroom.marks import lost
from handsroom.writers import gate, room_tables, sets_in


class OthersTable(HeldTable):
    """The nodes of a routine with the marked records that other hands leave."""

    def __init__(self, spread):
        house = spread.house
        tables = room_tables(house)
        self._writers = [(sort, sets_in(house, tables, sort[0], sort[1])) for sort in house.sorts]
        super().__init__(spread)

    def _reached(self, node, record):
        return lost(self.spread, record, self.open_sorts(node))

    def open_sorts(self, node):
        """The sorts, in order, that the locks of the guards of a node do not gate."""
        held = locks_of(node[1])
        return tuple([sort for sort, sets in self._writers if not gate(sets, held)])
