"""All errors: each is made with just the fields of its class, kept in attributes of these names."""


class PileError(ValueError):
    """What all errors of this package are."""


class BadBook(PileError):
    """What is no book; part tells what is wrong where."""

    def __init__(self, part):
        self.part = part


class BadWorker(PileError):
    """A worker that tells no waiting note and not None; number is how many steps were done."""

    def __init__(self, number):
        self.number = number


class Knotted(PileError):
    """A book of which some block leads to itself by calls."""

    def __init__(self):
        pass


class NoSteps(PileError):
    """What is no tuple of steps that a run of the book can do."""

    def __init__(self):
        pass


class NoHead(PileError):
    """What is no head of the book, or no number of a block."""

    def __init__(self):
        pass


class NoRows(PileError):
    """What is no tuple of places of the book."""

    def __init__(self):
        pass


class BadProgram(PileError):
    """What is no program; place is that of the first row of no form, or -1."""

    def __init__(self, place):
        self.place = place


class BadText(PileError):
    """A text that cannot be read; line is the first wrong one, 0 for what is no string."""

    def __init__(self, line):
        self.line = line


class TooMany(PileError):
    """More things than the call takes; most is how many it takes."""

    def __init__(self, most):
        self.most = most


class Unknown(PileError):
    """A name that was not written."""

    def __init__(self, name):
        self.name = name


class NoPlace(PileError):
    """What is no place."""

    def __init__(self):
        pass


class NoFunctions(PileError):
    """What is no dict of functions with the keys that are needed."""

    def __init__(self):
        pass


class IsOver(PileError):
    """A step of a run that stands at the end."""

    def __init__(self):
        pass


class BadStep(PileError):
    """What is no number of a next place."""

    def __init__(self):
        pass


class NoName(PileError):
    """What is no name that holds something here."""

    def __init__(self):
        pass


class NoNote(PileError):
    """What is no number of a note, or that of one that is gone."""

    def __init__(self):
        pass


class NothingDone(PileError):
    """Nothing that could be taken back, or done again."""

    def __init__(self):
        pass


class NoWay(PileError):
    """What is no way, or none of the kind that is asked for."""

    def __init__(self):
        pass


class NoLot(PileError):
    """What is no lot of the names at hand."""

    def __init__(self):
        pass


class NoRing(PileError):
    """What is no ring."""

    def __init__(self):
        pass


class NoNumber(PileError):
    """What is no integer within the bounds that are set."""

    def __init__(self):
        pass


class Endless(PileError):
    """Notes that pile up without end."""

    def __init__(self):
        pass


class NoRow(PileError):
    """What is no row, or no place of a row, of the kind that is asked for."""

    def __init__(self):
        pass


class NoMarks(PileError):
    """What is no lot of places of note rows."""

    def __init__(self):
        pass


class NoRoom(PileError):
    """A memory without a free cell."""

    def __init__(self):
        pass


class BadRow(PileError):
    """What is no row that a session can do."""

    def __init__(self):
        pass


class NoText(PileError):
    """What is no string."""

    def __init__(self):
        pass
