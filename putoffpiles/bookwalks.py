"""Walks: how a ring of a book is found, in a graph of what names hold some note at which place.

A spot is the pair (place, lot): a note that is held by just the names of the lot, not empty, where one stands there.
A twin is the triple (place, lot, other) for an elder note and a younger one, other being None if that is not made yet.
"""

from itertools import combinations

from putoffpiles.books import block_end, book_names, calls_of, nexts_of, opened_by, row_of
from putoffpiles.crossings import Crossings
from putoffpiles.holders import lot_behind
from putoffpiles.passages import row_holders
from putoffpiles.searches import knots_of, least_path

THERE = "there"
BACK = "back"


def pairs_behind(row, pair):
    """The list of the pairs (lot, other) behind a row: none if one of the notes is worked out or gone.

    Where the younger note is not made yet, a note row may make it, or one that is of no account.
    """
    lot = lot_behind(row, pair[0])
    if not lot:
        return []
    if pair[1] is None:
        return [(lot, None), (lot, (row[1],))] if row[0] == "note" else [(lot, None)]
    other = lot_behind(row, pair[1])
    return [(lot, other)] if other else []


class Watch:
    """What rows make of pairs of lots, kept for the next time."""

    def __init__(self, book):
        self.book = book
        self.kept = {}

    def behind(self, place, pair):
        """The list of the pairs behind the row at a place."""
        key = (place, pair)
        if key not in self.kept:
            self.kept[key] = pairs_behind(row_of(self.book, place), pair)
        return self.kept[key]


class WalkSearch:
    """A search for a walk that comes back to where it began, the elder note with it, on which a younger one is made.

    The younger one must come to be held by just the names that hold the elder one; from there on they stay so. Calls
    are gone through to their ends, or, of the kind there, stay open; of the kind back a walk goes on, at the end of a
    block, behind any call of it.
    """

    def __init__(self, book, kind, watch, crossings):
        self.book = book
        self.kind = kind
        self.watch = watch
        self.crossings = crossings
        self.calls = {n: [] for n in range(len(book.blocks))}
        for call in calls_of(book):
            self.calls[row_of(book, call)[1]].append(call)
        self.knots = knots_of(self._spot_leads())

    def found(self):
        """A ring, or None."""
        begins = self._begins()
        path = least_path(list(begins), self._twins_within, lambda twin: twin[1] == twin[2])
        if path is None:
            return None
        spot = begins[path[0]]
        rest = least_path(
            [(path[-1][0], path[-1][1], None)],
            self._elder_within,
            lambda twin: (twin[0], twin[1]) == spot)
        first = [(spot[0], spot[1], None)] + path
        return self._ring_of(list(zip(first, first[1:])) + list(zip(rest, rest[1:])))

    def _spot_leads(self):
        """For each spot, of any lot, the list of the spots next to it."""
        owners = book_names(self.book)
        lots = [lot for many in range(1, len(owners) + 1) for lot in combinations(owners, many)]
        leads = {}
        for n in range(len(self.book.blocks)):
            for place in range(block_end(self.book, n) + 1):
                for lot in lots:
                    behind = self._twins_behind(((n, place), lot, None))
                    leads[((n, place), lot)] = [(to, after) for to, after, other in behind if other is None]
        return leads

    def _begins(self):
        """The twins with which a walk may begin, each with the spot ahead of it, where the younger note is not made."""
        found = {}
        for place, lot in self.knots:
            for twin in self._twins_within((place, lot, None)):
                if twin[2] is not None:
                    found[twin] = (place, lot)
        return found

    def _twins_behind(self, twin):
        """The list of the twins next to a twin."""
        place, lot, other = twin
        if self._is_at_end(twin):
            calls = self.calls[place[0]] if self.kind == BACK else []
            return [((call[0], nexts_of(self.book, call)[0]), lot, other) for call in calls]
        inner = opened_by(self.book, place)
        if inner is None:
            pairs = self.watch.behind(place, (lot, other))
        else:
            pairs = self.crossings.states_behind(inner, (lot, other))
        found = [((place[0], to), pair[0], pair[1]) for pair in pairs for to in nexts_of(self.book, place)]
        return found + self._opened(twin)

    def _is_at_end(self, twin):
        """Whether a twin is at the end of a block."""
        return twin[0][1] == block_end(self.book, twin[0][0])

    def _opened(self, twin):
        """The list of the twin in the block that a call opens, if it may stay open."""
        if self.kind == BACK or self._is_at_end(twin):
            return []
        inner = opened_by(self.book, twin[0])
        return [] if inner is None else [((inner, 0), twin[1], twin[2])]

    def _twins_within(self, twin):
        """The twins next to a twin from which the elder note can come back to where it was."""
        knot = self.knots[(twin[0], twin[1])]
        return [after for after in self._twins_behind(twin) if self.knots[(after[0], after[1])] == knot]

    def _elder_within(self, twin):
        """Those of them without a younger note."""
        return [after for after in self._twins_within(twin) if after[2] is None]

    def _rows_between(self, twin, after):
        """For each row from a twin to a next one its place, and whether the younger note is not made yet."""
        place, lot, other = twin
        if self._is_at_end(twin):
            return []
        found = [(place, other is None)]
        if opened_by(self.book, place) is None or after in self._opened(twin):
            return found
        inner = opened_by(self.book, place)
        steps = self.crossings.path(inner, (lot, other), (block_end(self.book, inner), (after[1], after[2])))
        return found + [(at, pair[1] is None) for at, pair, which in steps]

    def _ring_of(self, walk):
        """The ring of a walk, the list of its pairs of a twin and of the one next to it."""
        edges = [self._rows_between(twin, after) for twin, after in walk]
        head, turn = self._head_on(walk)
        ahead = [row[0] for edge in edges[:turn] for row in edge]
        rest = [row[0] for edge in edges[turn:] for row in edge]
        made = len([row for row in edges[0] if row[1]]) - 1
        k = made - len(ahead) if made >= len(ahead) else made + len(rest)
        rows = tuple(rest + ahead)
        lot = walk[turn][0][1]
        if row_holders(self.book, rows[k + 1 :], (row_of(self.book, rows[k])[1],)) != lot:
            # The note that is made comes to where the elder one is but a round later.
            rows = rows + rows
        return (self.kind, head, rows, k, lot)

    def _head_on(self, walk):
        """The pair of a head and of the number of a twin on a walk with which it begins, or, of a back, ends."""
        for number, (twin, after) in enumerate(walk):
            if after in self._opened(twin):
                return ((after[0][0], -1), (number + 1) % len(walk))
            if self._is_at_end(twin):
                return ((twin[0][0], -1), number)
        # All rows are in one block: the again ahead of the others is that which is never left.
        places = [twin[0] for twin, after in walk]
        return (min(places), places.index(min(places)))


def found_ring(book):
    """A ring of a book, or None."""
    watch = Watch(book)
    crossings = Crossings(book, watch.behind)
    ring = WalkSearch(book, THERE, watch, crossings).found()
    return WalkSearch(book, BACK, watch, crossings).found() if ring is None else ring
