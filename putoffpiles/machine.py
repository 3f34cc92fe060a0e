"""Machines: programs that are done row by row in a memory of cells."""

from putoffpiles.cells import Cells
from putoffpiles.errors import NoName, NoNumber
from putoffpiles.notes import functions_of
from putoffpiles.programs import is_number_below, names, ops, row_at
from putoffpiles.runs import place_behind

MOST_CELLS = 1000


class Machine:
    """A program that is being done in so many cells."""

    def __init__(self, program, functions, size):
        kept = functions_of(ops(program), functions)
        if size == 0 or not is_number_below(MOST_CELLS + 1, size):
            raise NoNumber()
        self._program = program
        self._cells = Cells(kept, size)
        self._way = [0]

    def step(self, which):
        """Does the row at which it stands, and goes to the next place with this number."""
        behind = place_behind(self._program, self._way[-1], which)
        self._cells.do(row_at(self._program, self._way[-1]))
        self._way.append(behind)

    def place(self):
        """The place at which it stands."""
        return self._way[-1]

    def way(self):
        """The way done so far."""
        return tuple(self._way)

    def held(self, name):
        """What a name holds: ("worth", w) or ("note", cell)."""
        if name not in names(self._program):
            raise NoName()
        return self._cells.held(name)

    def waiting(self):
        """The lot of the numbers of notes that wait."""
        return self._cells.waiting()

    def worked(self):
        """The numbers of notes in the order in which they were worked out."""
        return self._cells.worked()

    def said(self):
        """What was printed."""
        return self._cells.said()

    def cells(self):
        """The tuple of what each cell tells: None if it is free, a note, or what was worked out."""
        return self._cells.told()

    def collect(self):
        """Collects."""
        self._cells.collect()

    def collected(self):
        """How often it was collected."""
        return self._cells.times
