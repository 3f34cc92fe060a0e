"""Sessions: rows that are done one by one as they are typed, with a journal of them."""

from putoffpiles.errors import BadRow, NoFunctions, NoName, NothingDone, Unknown
from putoffpiles.notes import Notes
from putoffpiles.programs import blocks_of, is_name, is_row
from putoffpiles.texts import row_text

CHECK_MODULUS = 9973


def check_of(text):
    """The check of a journal's line whose row has this text."""
    return sum([ord(sign) * place for place, sign in enumerate(text, start=1)]) % CHECK_MODULUS


def journal_line(row):
    """The line of a row, or of a ("drop", x), in a journal."""
    text = f"drop {row[1]}" if row[0] == "drop" else row_text(row)
    return f"{text} #{check_of(text)}\n"


class Session:
    """What names hold behind the rows and drops that were done and not taken back."""

    def __init__(self, functions):
        if not isinstance(functions, dict) or not all([is_name(op) for op in functions]):
            raise NoFunctions()
        self._notes = Notes({op: functions[op] for op in functions})
        self._done = []
        self._undone = []

    def do(self, row):
        """Does a row that has no blocks."""
        if not is_row(1, row) or blocks_of(row) or not self.can_do(row):
            raise BadRow()
        self._go(row)

    def can_do(self, row):
        """Whether a row without blocks, or a ("drop", x), can be done here; what functions raise is not told."""
        if row[0] == "drop":
            return row[1] in self.names()
        return row[0] != "note" or row[2] in self._notes.functions

    def held(self, name):
        """What a name holds: ("worth", w) or ("note", number)."""
        if not is_name(name):
            raise NoName()
        return self._notes.held(name)

    def note(self, number):
        """The pair (op, parts) of a note that is not worked out, or ("worth", w)."""
        return self._notes.note(number)

    def waiting(self):
        """The lot of the numbers of notes that wait."""
        return self._notes.waiting()

    def worked(self):
        """The numbers of notes in the order in which they were worked out."""
        return self._notes.worked()

    def said(self):
        """What was printed."""
        return self._notes.said()

    def names(self):
        """The lot of the names that were written and not dropped since."""
        return self._notes.written()

    def drop(self, name):
        """Lets a name hold 0 again, as if it had never been written."""
        if not self.can_do(("drop", name)):
            raise Unknown(name)
        self._go(("drop", name))

    def undo(self):
        """Takes the last row or drop back."""
        if not self._done:
            raise NothingDone()
        self._notes.undo()
        self._undone.append(self._done.pop())

    def redo(self):
        """Does again what was taken back last, as long as nothing was done since."""
        if not self._undone:
            raise NothingDone()
        self._notes.do(self._undone[-1])
        self._done.append(self._undone.pop())

    def copy(self):
        """A Session that goes on, back and again apart."""
        twin = Session(self._notes.functions)
        twin._notes = self._notes.copy()
        twin._done = list(self._done)
        twin._undone = list(self._undone)
        return twin

    def journal(self):
        """A line for each row and drop that is not taken back."""
        return "".join([journal_line(row) for row in self._done])

    def _go(self, row):
        """Does a row or drop; what was taken back can then not be done again."""
        self._notes.do(row)
        self._done.append(row)
        self._undone = []
