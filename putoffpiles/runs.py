"""Runs: programs that are done row by row, with functions of strangers."""

from putoffpiles.errors import BadStep, IsOver, NoName, NothingDone, NoWay
from putoffpiles.notes import Notes, functions_of
from putoffpiles.programs import is_number_below, is_way, names, nexts, ops, row_at


def place_behind(program, place, which):
    """The next place with this number: IsOver at the end, BadStep for what is no number of one."""
    after = nexts(program, place)
    if not after:
        raise IsOver()
    if not is_number_below(len(after), which):
        raise BadStep()
    return after[which]


class Run:
    """A program that is being done, with all that leads back to where it began."""

    def __init__(self, program, functions):
        self._functions = functions_of(ops(program), functions)
        self._program = program
        self._notes = Notes(self._functions)
        self._way = [0]

    def step(self, which):
        """Does the row at which it stands, and goes to the next place with this number."""
        behind = place_behind(self._program, self._way[-1], which)
        self._notes.do(row_at(self._program, self._way[-1]))
        self._way.append(behind)

    def place(self):
        """The place at which it stands."""
        return self._way[-1]

    def way(self):
        """The way done so far."""
        return tuple(self._way)

    def held(self, name):
        """What a name holds: ("worth", w) or ("note", number)."""
        if name not in names(self._program):
            raise NoName()
        return self._notes.held(name)

    def note(self, number):
        """The pair (op, parts) of a note that is not worked out, or ("worth", w)."""
        return self._notes.note(number)

    def waiting(self):
        """The lot of the numbers of notes that wait."""
        return self._notes.waiting()

    def worked(self):
        """The numbers of notes in the order in which they were worked out."""
        return self._notes.worked()

    def said(self):
        """What was printed."""
        return self._notes.said()

    def back(self):
        """Takes the last step back."""
        if len(self._way) == 1:
            raise NothingDone()
        self._notes.undo()
        self._way.pop()

    def copy(self):
        """A Run that goes on and back apart."""
        twin = Run(self._program, self._functions)
        twin._notes = self._notes.copy()
        twin._way = list(self._way)
        return twin


def told(program, way, functions):
    """The Run that went this way, from place 0."""
    if not is_way(program, way) or way[0] != 0:
        raise NoWay()
    run = Run(program, functions)
    for place in way[1:]:
        go_to(run, place)
    return run


def go_to(run, place):
    """Does the row at which a run stands, and goes to a place next to it."""
    run.step(nexts(run._program, run.place()).index(place))


def work_ahead(run, number):
    """Works out a note of a run that waits, though no row asks it, and tells how many notes that were."""
    return run._notes.work_ahead(number)


def shape(run):
    """The triple (place, heads, notes) of a run."""
    heads, notes = run._notes.shape(names(run._program))
    return (run.place(), heads, notes)
