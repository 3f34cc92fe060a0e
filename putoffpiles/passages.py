"""Passages: the rows that are done from a beginning to a later one, or from an end to the one around it."""

from putoffpiles.books import book_names, is_book_place, row_of
from putoffpiles.errors import NoHead, NoLot, NoRows
from putoffpiles.holders import lot_behind
from putoffpiles.programs import is_integer, is_lot, is_number_below
from putoffpiles.tracks import back_track, there_track


def is_head(book, thing):
    """Whether a thing is a head: (n, -1) of a block, or the place of an again."""
    if not isinstance(thing, tuple) or len(thing) != 2 or not is_number_below(len(book.blocks), thing[0]):
        return False
    if is_integer(thing[1]) and thing[1] == -1:
        return True
    return is_book_place(book, thing) and row_of(book, thing)[0] == "again"


def are_places(book, thing):
    """Whether a thing is a tuple of places of the book."""
    return isinstance(thing, tuple) and all([is_book_place(book, place) for place in thing])


def is_there(book, head, thing):
    """Whether a thing is a tuple of the rows done in some run from a beginning of a head to a later one."""
    if not is_head(book, head):
        raise NoHead()
    return are_places(book, thing) and there_track(book, head, thing) is not None


def is_back(book, n, thing):
    """Whether a thing is a tuple of the rows done in some run from the end of a block to that of one around it."""
    if not is_number_below(len(book.blocks), n):
        raise NoHead()
    return are_places(book, thing) and back_track(book, n, thing) is not None


def row_holders(book, rows, lot):
    """The lot of the names that hold a note behind rows if just those of a lot do ahead, None if it is worked out."""
    if not are_places(book, rows):
        raise NoRows()
    if not is_lot(book_names(book), lot):
        raise NoLot()
    for place in rows:
        lot = lot_behind(row_of(book, place), lot)
        if lot is None:
            return None
    return lot
