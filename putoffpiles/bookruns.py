"""Runs of books: blocks that call one another, done row by row with functions of strangers."""

from putoffpiles.books import book_names, book_ops, row_of
from putoffpiles.errors import NoName, NoSteps, NothingDone
from putoffpiles.notes import Notes, functions_of
from putoffpiles.programs import is_number_below
from putoffpiles.stands import Stand


class BookRun:
    """A book that is being done, with all that leads back to where it began."""

    def __init__(self, book, functions):
        self._functions = functions_of(book_ops(book), functions)
        self._book = book
        self._notes = Notes(self._functions)
        self._stand = Stand(book)
        self._whiches = []

    def step(self, which):
        """Does the row that is next, and goes to the next place with this number."""
        self._stand.judge(which)
        self._notes.do(row_of(self._book, self._stand.stood[-1][0]))
        self._stand.go(which)
        self._whiches.append(which)

    def pile(self):
        """The places of the calls that are open, the lowest first, and that of the next row; () at the end."""
        return self._stand.piled()

    def rows(self):
        """The places of the rows done."""
        return self._stand.passed()

    def steps(self):
        """The numbers of the next places gone to."""
        return tuple(self._whiches)

    def held(self, name):
        """What a name holds: ("worth", w) or ("note", number)."""
        if name not in book_names(self._book):
            raise NoName()
        return self._notes.held(name)

    def note(self, number):
        """The pair (op, parts) of a note that is not worked out, or ("worth", w)."""
        return self._notes.note(number)

    def waiting(self):
        """The lot of the numbers of notes that wait."""
        return self._notes.waiting()

    def worked(self):
        """The numbers of notes in the order in which they were worked out."""
        return self._notes.worked()

    def said(self):
        """What was printed."""
        return self._notes.said()

    def back(self):
        """Takes the last step back."""
        if not self._whiches:
            raise NothingDone()
        self._notes.undo()
        self._stand.undo()
        self._whiches.pop()

    def copy(self):
        """A BookRun that goes on and back apart."""
        twin = BookRun(self._book, self._functions)
        twin._notes = self._notes.copy()
        twin._stand = self._stand.copy()
        twin._whiches = list(self._whiches)
        return twin


def are_steps(book, thing):
    """Whether a thing is a tuple of steps that a run of the book can do."""
    if not isinstance(thing, tuple):
        return False
    stand = Stand(book)
    for which in thing:
        if not is_number_below(stand.choices(), which):
            return False
        stand.go(which)
    return True


def book_told(book, steps, functions):
    """The BookRun that did these steps."""
    if not are_steps(book, steps):
        raise NoSteps()
    run = BookRun(book, functions)
    for which in steps:
        run.step(which)
    return run


def book_shape(run):
    """The pair (heads, notes) of the shape of a run."""
    return run._notes.shape(book_names(run._book))
