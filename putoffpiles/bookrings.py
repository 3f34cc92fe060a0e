"""Rings of books: where notes pile up, on the way into calls within calls, or on the way out of them."""

from putoffpiles.books import block_end, book_names, calls_of, row_of
from putoffpiles.bookwalks import BACK, THERE, found_ring
from putoffpiles.crossings import Crossings
from putoffpiles.errors import NoNumber, NoRing, TooMany
from putoffpiles.passages import is_back, is_head, is_there, row_holders
from putoffpiles.programs import is_lot, is_number_below
from putoffpiles.searches import least_path
from putoffpiles.tracks import back_track, there_track

MOST_BOOK_RING_NAMES = 4
MOST_BOOK_TIMES = 200


def book_ring(book):
    """A ring of the book, or None."""
    if len(book_names(book)) > MOST_BOOK_RING_NAMES:
        raise TooMany(MOST_BOOK_RING_NAMES)
    return found_ring(book)


def is_passage(book, kind, head, rows):
    """Whether rows are a there of a head, or a back of its block, as the kind has it."""
    if not isinstance(kind, str) or not is_head(book, head):
        return False
    if kind == THERE:
        return is_there(book, head, rows)
    return kind == BACK and head[1] == -1 and is_back(book, head[0], rows)


def is_book_ring(book, thing):
    """Whether a thing is a ring of the book."""
    if not isinstance(thing, tuple) or len(thing) != 5:
        return False
    kind, head, rows, k, lot = thing
    if not is_passage(book, kind, head, rows) or not is_number_below(len(rows), k):
        return False
    row = row_of(book, rows[k])
    if row[0] != "note" or not is_lot(book_names(book), lot) or not lot:
        return False
    return row_holders(book, rows[k + 1 :], (row[1],)) == lot and row_holders(book, rows, lot) == lot


def calls_to(book, n):
    """The list of calls, each in the block of the one ahead, the first one in MAIN, that leads to a block."""
    path = least_path(
        [(0, None)],
        lambda state: [(row_of(book, call)[1], call) for call in calls_of(book) if call[0] == state[0]],
        lambda state: state[0] == n)
    return [state[1] for state in path[1:]]


def steps_within(roads, n, place):
    """The list of the steps from where a block begins to a place of it, or to its end."""
    return [which for at, state, which in roads.path(n, None, (place, None))]


def steps_into(roads, calls):
    """The list of the steps into calls, one within the other, from where the block of the first one begins."""
    found = []
    for call in calls:
        found.extend(steps_within(roads, call[0], call[1]) + [0])
    return found


def ring_steps(book, ring, times):
    """Steps of a BookRun behind which at least as many notes wait as times tells, and one."""
    if not is_book_ring(book, ring):
        raise NoRing()
    if not is_number_below(MOST_BOOK_TIMES + 1, times):
        raise NoNumber()
    kind, (n, place), rows, _, _ = ring
    roads = Crossings(book, lambda at, state: [state])
    found = steps_into(roads, calls_to(book, n))
    if kind == THERE:
        track, spot = there_track(book, (n, place), rows)
        steps, _ = track.unwound(spot)
        return tuple(found + steps_within(roads, n, max(place, 0)) + steps * (times + 1))
    track, spot = back_track(book, n, rows)
    steps, calls = track.unwound(spot)
    # Each back ends one block that is open around the one that ended ahead of it.
    found = found + steps_into(roads, calls) * (times + 1) + steps_within(roads, n, block_end(book, n))
    return tuple(found + steps * (times + 1))
