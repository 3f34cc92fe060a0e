"""Texts of books, and books read from them."""

from putoffpiles.books import Book
from putoffpiles.reading import Opened, Reader, is_number_text, read_with
from putoffpiles.texts import MARGIN, block_lines

MOST_CALL_DIGITS = 9


def book_text(book):
    """The text of a book, each line closed by a line feed."""
    found = []
    for block in book.blocks:
        found.append("block\n")
        found.extend([MARGIN + line + "\n" for line in block_lines(block)])
    return "".join(found)


class BookReader(Reader):
    """What was read of a book so far: blocks stand outermost, rows within them."""

    def _begin(self, text):
        """Takes the block or row of this text, and tells whether there is such a one, and whether it stands there."""
        if len(self.opened) == 1:
            self.opened.append(Opened(("block",)))
            return text == "block"
        number = text.removeprefix("call ")
        if number != text and is_number_text(MOST_CALL_DIGITS, number):
            self.opened[-1].taken.append(("call", int(number)))
            return True
        return super()._begin(text)


def read_book(text):
    """The book that a text tells."""
    return Book(tuple([row[1] for row in read_with(BookReader(), text)]))
