"""Shapes of books: all that come between two steps, however deep calls stand within one another."""

from putoffpiles.bookrings import book_ring
from putoffpiles.books import block_end, book_names, calls_of, nexts_of, opened_by, row_of
from putoffpiles.errors import Endless, TooMany
from putoffpiles.outlines import outline_behind

MOST_BOOK_SHAPES = 1000


def numbers_in(bits):
    """The list of the numbers whose bits are set."""
    found = []
    while bits:
        found.append((bits & -bits).bit_length() - 1)
        bits = bits & (bits - 1)
    return found


class ShapeSearch:
    """A search for all shapes, which are numbered as they are met.

    What one finds at a spot, the triple (block, place, number of a shape), is told by bits: those of the numbers of the
    shapes with which the open block may have begun.
    """

    def __init__(self, book):
        self.book = book
        self.owners = book_names(book)
        self.numbers = {}
        self.met = []
        self.bits = {}
        self.fresh = {}
        self.kept = {}
        self.ends = {}
        self.calls = {n: [] for n in range(len(book.blocks))}
        for call in calls_of(book):
            self.calls[row_of(book, call)[1]].append(call)

    def shapes(self):
        """The list of all shapes that come."""
        first = self._number((tuple([-1 for name in self.owners]), ()))
        self._add((0, 0, first), 1 << first)
        while self.fresh:
            now = self.fresh
            self.fresh = {}
            for spot, bits in now.items():
                self._go_on(spot, bits)
        return self.met

    def _number(self, shape):
        """The number of a shape."""
        if shape not in self.numbers:
            if len(self.met) == MOST_BOOK_SHAPES:
                raise TooMany(MOST_BOOK_SHAPES)
            self.numbers[shape] = len(self.met)
            self.met.append(shape)
        return self.numbers[shape]

    def _add(self, spot, bits):
        """Puts what is new of these bits at a spot among what is to be done."""
        known = self.bits.get(spot, 0)
        more = bits ^ (bits & known)
        if more:
            self.bits[spot] = known | more
            self.fresh[spot] = self.fresh.get(spot, 0) | more

    def _go_on(self, spot, bits):
        """Does the row at a spot in open blocks that began with these shapes."""
        n, place, number = spot
        if place == block_end(self.book, n):
            for begun in numbers_in(bits):
                self._end((n, begun), number)
        elif opened_by(self.book, (n, place)) is None:
            after = self._behind(spot)
            for to in nexts_of(self.book, (n, place)):
                self._add((n, to, after), bits)
        else:
            inner = opened_by(self.book, (n, place))
            self._add((inner, 0, number), 1 << number)
            for after in self.ends.get((inner, number), []):
                self._add((n, nexts_of(self.book, (n, place))[0], after), bits)

    def _end(self, beginning, number):
        """Goes on behind all calls of a block that began with a shape and ends with another one."""
        n, begun = beginning
        self.ends.setdefault(beginning, []).append(number)
        for call in self.calls[n]:
            self._add(
                (call[0], nexts_of(self.book, call)[0], number),
                self.bits.get((call[0], call[1], begun), 0))

    def _behind(self, spot):
        """The number of the shape behind the row at a spot."""
        if spot not in self.kept:
            heads, notes = self.met[spot[2]]
            row = row_of(self.book, (spot[0], spot[1]))
            self.kept[spot] = self._number(outline_behind(self.owners, row, heads, notes))
        return self.kept[spot]


def shapes_of_runs(book):
    """The list of all shapes that come."""
    if book_ring(book) is not None:
        raise Endless()
    return ShapeSearch(book).shapes()


def book_greatest(book):
    """The greatest number of notes that wait between two steps of any run."""
    return max([len(notes) for heads, notes in shapes_of_runs(book)])


def book_shapes(book):
    """The ascending list of all shapes that come between two steps."""
    return sorted(shapes_of_runs(book))
