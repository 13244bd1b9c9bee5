"""Heaps: the objects of all hands at one moment ([34], [51])."""

from handsroom.errors import NoFirst, NoSuch, WrongFirst
from handsroom.plain import is_index, is_integer


def _are_numbers(house, kind, numbers):
    if not isinstance(numbers, (list, tuple)) or len(numbers) != len(house.fields_of(kind)):
        return False
    return all([is_integer(number) for number in numbers])


def begun_rows(house, firsts):
    """A triple (kind, numbers, None) for each of the first objects, pairs (kind, numbers)."""
    rows = []
    for position, (kind, numbers) in enumerate(firsts):
        if kind not in house.kinds:
            raise NoSuch(kind)
        if not _are_numbers(house, kind, numbers):
            raise WrongFirst(position)
        rows.append((kind, tuple(numbers), None))
    found = [row[0] for row in rows]
    for kind in house.kinds:
        if kind not in found:
            raise NoFirst(kind)
    return tuple(rows)


class Heap:
    """The objects at one moment; a heap never changes."""

    def __init__(self, house, rows):
        self._house = house
        self._rows = rows

    @classmethod
    def begun(cls, house, firsts):
        """The heap of first objects, pairs (kind, numbers)."""
        return cls(house, begun_rows(house, firsts))

    @property
    def object_rows(self):
        """A triple (kind, numbers, owner) for each object; the owner of a shared one is None."""
        return self._rows

    def __len__(self):
        return len(self._rows)

    def shared_of(self, kind):
        """The shared objects of a kind, ascending."""
        if kind not in self._house.kinds:
            raise NoSuch(kind)
        return tuple([number for number, row in enumerate(self._rows) if row[0] == kind and row[2] is None])

    def is_shared_of(self, number, kind):
        """True if the value, any value, is the number of a shared object of the kind."""
        return is_index(number, len(self._rows)) and self._rows[number][0] == kind and self._rows[number][2] is None

    def place_of(self, number, field):
        """The index of a field among the numbers of an object."""
        return self._house.fields_of(self._rows[number][0]).index(field)

    def number_at(self, number, field):
        """The number of an object at a field."""
        return self._rows[number][1][self.place_of(number, field)]

    def made(self, kind, owner):
        """The heap with one more object, own of a hand."""
        zeros = tuple([0 for _ in self._house.fields_of(kind)])
        return Heap(self._house, self._rows + ((kind, zeros, owner),))

    def written(self, number, field, worth):
        """The heap in which an object has another number at a field."""
        kind, numbers, owner = self._rows[number]
        at = self.place_of(number, field)
        row = (kind, numbers[:at] + (worth,) + numbers[at + 1:], owner)
        return Heap(self._house, self._rows[:number] + (row,) + self._rows[number + 1:])

    def sharing(self, numbers):
        """The heap in which some objects are shared."""
        rows = [row[:2] + (None,) if at in numbers else row for at, row in enumerate(self._rows)]
        return Heap(self._house, tuple(rows))
