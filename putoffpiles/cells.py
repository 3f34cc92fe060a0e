"""Cells: notes in a memory of so many, and a collector that frees those to which nothing leads."""

from putoffpiles.errors import NoRoom
from putoffpiles.notes import Holding


class Cells(Holding):
    """What names hold in a memory; the index of a note is its cell, None stands in made for a free one."""

    def __init__(self, functions, size):
        super().__init__(functions)
        self.made = [None for cell in range(size)]
        self.numbers = {}
        self.many = 0
        self.times = 0

    def told(self):
        """The tuple of what each cell tells."""
        return tuple([self._told_of(cell) for cell in range(len(self.made))])

    def collect(self):
        """Frees all cells to which no name leads; what is worked out is not led to, but taken along as a worth."""
        met = self._met()
        self.heads = {name: self.held(name) for name in self.heads}
        self.made = [self._settled(cell) if cell in met else None for cell in range(len(self.made))]
        self.numbers = {cell: self.numbers[cell] for cell in met}
        self.worths = {}
        self.times += 1

    def _told_of(self, cell):
        """What a cell tells."""
        if self.made[cell] is None:
            return None
        if cell in self.worths:
            return ("=", self.worths[cell])
        op, parts = self._settled(cell)
        return (op, tuple([("cell", what) if kind == "note" else (kind, what) for kind, what in parts]))

    def _settled(self, cell):
        """The note in a cell, parts that are worked out being worths."""
        op, parts = self.made[cell]
        return (op, tuple([self._now(part) for part in parts]))

    def _put_off(self, op, parts):
        """Keeps a new note in the least free cell, and tells which one it is."""
        if self._least_free() is None:
            # Names hold the parts of the new note still, so that what waits is all that must stay.
            if len(self._met()) == len(self.made):
                raise NoRoom()
            self.collect()
        cell = self._least_free()
        self.made[cell] = (op, parts)
        self.numbers[cell] = self.many
        self.many += 1
        return cell

    def _least_free(self):
        """The least cell that is free, or None."""
        for cell, note in enumerate(self.made):
            if note is None:
                return cell
        return None

    def _numbers(self, kept):
        """The list of the numbers of the notes in these cells."""
        return [self.numbers[cell] for cell in kept]
