"""Journals: sessions that are done again from what was written down of them."""

from putoffpiles.errors import NoText
from putoffpiles.programs import is_name
from putoffpiles.reading import read_row
from putoffpiles.sessions import Session, journal_line


def row_in(text):
    """The row, or ("drop", x), whose text this is, or None."""
    name = text.removeprefix("drop ")
    if name != text and is_name(name):
        return ("drop", name)
    return read_row(text)


def row_of_line(line):
    """The row, or ("drop", x), that a journal has in this line, without its line feed, or None."""
    text, _, _ = line.rpartition(" #")
    row = row_in(text)
    return row if row is not None and journal_line(row) == line + "\n" else None


def recovered(functions, text):
    """The Session that does a journal, as far as this is whole and right, and how many signs that takes."""
    session = Session(functions)
    if not isinstance(text, str):
        raise NoText()
    many = 0
    for line in text.split("\n")[:-1]:
        row = row_of_line(line)
        # What cannot be done is told ahead, as an error of a stranger's function must not be taken for it.
        if row is None or not session.can_do(row):
            break
        if row[0] == "drop":
            session.drop(row[1])
        else:
            session.do(row)
        many += len(line) + 1
    return (session, many)
