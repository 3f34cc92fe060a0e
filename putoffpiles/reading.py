"""Reading: programs from their texts."""

from putoffpiles.errors import BadText
from putoffpiles.programs import ASKING, MOST_PARTS, Program, is_name
from putoffpiles.texts import MARGIN

MOST_DIGITS = 30
DIGITS = "0123456789"


def is_number_text(most, text):
    """Whether a text is that of a number of so many digits at most, none of them needless."""
    if not 1 <= len(text) <= most or not all([sign in DIGITS for sign in text]):
        return False
    return text[0] != "0" or text == "0"


def is_integer_text(text):
    """Whether a text is that of an integer, nothing in it needless."""
    return text != "-0" and is_number_text(MOST_DIGITS, text.removeprefix("-"))


def read_row(text):
    """The row, one without blocks, whose text this is, or None."""
    for word in ASKING:
        asked = text.removeprefix(word + " ")
        if asked != text and is_name(asked):
            return (word, asked)
    name, _, rest = text.partition(" = ")
    if not is_name(name):
        return None
    if is_name(rest):
        return ("copy", name, rest)
    if is_integer_text(rest):
        return ("give", name, int(rest))
    return read_note(name, rest)


def read_note(name, text):
    """The note row of a name, whose text behind the sign this is, or None."""
    op, _, rest = text.partition("(")
    if not is_name(op) or not rest.endswith(")"):
        return None
    parts = () if rest == ")" else tuple(rest[:-1].split(", "))
    if len(parts) > MOST_PARTS or not all([is_name(part) for part in parts]):
        return None
    return ("note", name, op, parts)


class Opened:
    """A block that is open: its rows so far, and what its row begins with, an either's first block too."""

    def __init__(self, begin):
        self.begin = begin
        self.taken = []

    def lacks_or(self):
        """Whether it is the first block of an either, so that another one must follow."""
        return self.begin == ("either",)


class Reader:
    """What was read so far: the blocks that are open, each standing in the one ahead of it."""

    def __init__(self):
        self.opened = [Opened(())]

    def take(self, line):
        """Takes the next line, and tells whether it has a form and stands where it can."""
        text = line.lstrip(" ")
        deep, odd = divmod(len(line) - len(text), len(MARGIN))
        if odd or deep >= len(self.opened):
            return False
        if text == "or":
            return len(self.opened) > deep + 1 and self._close(deep + 2) and self._turn()
        return self._close(deep + 1) and self._begin(text)

    def over(self):
        """Closes all but the outermost block, and tells whether all could be closed."""
        return self._close(1)

    def rows(self):
        """The rows of the outermost block."""
        return tuple(self.opened[0].taken)

    def _close(self, many):
        """Closes all open blocks but so many, and tells whether all could be closed."""
        while len(self.opened) > many:
            inner = self.opened.pop()
            if inner.lacks_or():
                return False
            self.opened[-1].taken.append((*inner.begin, tuple(inner.taken)))
        return True

    def _turn(self):
        """Goes on from an either's first block to its second one, and tells whether there was a first one."""
        first = self.opened.pop()
        self.opened.append(Opened(("either", tuple(first.taken))))
        return first.lacks_or()

    def _begin(self, text):
        """Takes the row of this text into the innermost block, and tells whether there is such a row."""
        if text in ("either", "again"):
            self.opened.append(Opened((text,)))
            return True
        row = read_row(text)
        self.opened[-1].taken.append(row)
        return row is not None


def read_with(reader, text):
    """The rows that a reader of no lines yet reads from a text."""
    if not isinstance(text, str):
        raise BadText(0)
    *lines, rest = text.split("\n")
    for number, line in enumerate(lines, start=1):
        if not reader.take(line):
            raise BadText(number)
    if rest != "" or not reader.over():
        raise BadText(len(lines) + 1)
    return reader.rows()


def read_program(text):
    """The program that a text tells."""
    return Program(read_with(Reader(), text))
