"""Walks: how a ring of a book is found, in a graph of what names hold some note at which place.

A spot is the pair (place, lot): a note that is held by just the names of the lot, not empty, where one stands there.
A twin is the triple (place, lot, other) for an elder note and a younger one that are held so, other being None where
the younger one is not made yet, or is of no account any more.
"""

from itertools import combinations

from putoffpiles.books import block_end, book_names, calls_of, nexts_of, opened_by, row_of
from putoffpiles.crossings import Crossings
from putoffpiles.holders import lot_behind
from putoffpiles.passages import row_holders
from putoffpiles.searches import knots_of, least_path

THERE = "there"
BACK = "back"


def lots_behind(row, lot):
    """The list of the lot behind a row, empty if the note is worked out or gone."""
    after = lot_behind(row, lot)
    return [after] if after else []


def pairs_behind(row, pair):
    """The list of the pairs (lot, other) behind a row, empty if one of the notes is worked out or gone.

    Where the younger note is not made yet, a note row may make it, or one that is of no account.
    """
    found = []
    for lot in lots_behind(row, pair[0]):
        if pair[1] is not None:
            found.extend([(lot, other) for other in lots_behind(row, pair[1])])
        elif row[0] == "note":
            found.extend([(lot, None), (lot, (row[1],))])
        else:
            found.append((lot, None))
    return found


class Watch:
    """What rows make of pairs of lots, kept for the next time, and how blocks are gone through with a lot or a pair."""

    def __init__(self, book):
        self.book = book
        self.kept = {}
        self.single = Crossings(book, self.lots)
        self.paired = Crossings(book, self.pairs)

    def lots(self, place, lot):
        """The list of the lots behind the row at a place."""
        return lots_behind(row_of(self.book, place), lot)

    def pairs(self, place, pair):
        """The list of the pairs behind the row at a place."""
        key = (place, pair)
        if key not in self.kept:
            self.kept[key] = pairs_behind(row_of(self.book, place), pair)
        return self.kept[key]


class WalkSearch:
    """A search for a walk that comes back to where it began, the elder note with it, on which a younger one is made.

    The younger one must come to be held by just the names that hold the elder one; from there on they stay so. Calls
    are gone through to their ends, or, of the kind there, stay open; of the kind back a walk goes on, at the end of a
    block, behind any call of it.
    """

    def __init__(self, book, kind, watch):
        self.book = book
        self.kind = kind
        self.watch = watch
        self.calls = {n: [] for n in range(len(book.blocks))}
        for call in calls_of(book):
            self.calls[row_of(book, call)[1]].append(call)
        self.knots = knots_of(self._spot_leads())

    def found(self):
        """A ring, or None."""
        came = {}
        for first in self._makers():
            for twin in self._made_behind(first):
                if twin not in came:
                    came[twin] = first
                    last = self._first_alike(twin, came)
                    if last is not None:
                        return self._ring_of(self._walk_to(last, came))
        return None

    def _spot_leads(self):
        """For each spot, of any lot, the list of the spots next to it."""
        owners = book_names(self.book)
        lots = [lot for many in range(1, len(owners) + 1) for lot in combinations(owners, many)]
        leads = {}
        for n in range(len(self.book.blocks)):
            for place in range(block_end(self.book, n) + 1):
                for lot in lots:
                    behind = self._behind(((n, place), lot, None))
                    leads[((n, place), lot)] = [(twin[0], twin[1]) for twin in behind]
        return leads

    def _makers(self):
        """The list of the twins without a younger note at rows that may make one, calls behind all others."""
        notes = []
        # What calls make takes more to find out, and is mostly not needed.
        calls = []
        for place, lot in self.knots:
            if place[1] < block_end(self.book, place[0]):
                if row_of(self.book, place)[0] == "note":
                    notes.append((place, lot, None))
                elif opened_by(self.book, place) is not None:
                    calls.append((place, lot, None))
        return notes + calls

    def _made_behind(self, first):
        """The list of the twins behind a row that makes the younger note, if the elder one can come back."""
        place, lot, _ = first
        inner = opened_by(self.book, place)
        if not self._within(first):
            return []
        if inner is None:
            pairs = self.watch.pairs(place, (lot, None))
        else:
            pairs = self.watch.paired.states_behind(inner, (lot, None))
        return self._kept(first, self._moved(place, [pair for pair in pairs if pair[1] is not None]))

    def _first_alike(self, begin, came):
        """The first twin, from one on, of which both notes are held by the same names, or None.

        Came tells for each twin that was met the one ahead of it; from those met earlier there is none.
        """
        ahead = [begin]
        at = 0
        while at < len(ahead):
            twin = ahead[at]
            if twin[1] == twin[2]:
                return twin
            for after in self._within(twin):
                if after not in came:
                    came[after] = twin
                    ahead.append(after)
            at += 1
        return None

    def _walk_to(self, last, came):
        """The list of the pairs of a twin and the one next to it, on the walk by way of a twin that was met."""
        path = [last]
        while path[-1][2] is not None:
            path.append(came[path[-1]])
        path = path[::-1]
        rest = least_path([(last[0], last[1], None)], self._within, lambda twin: twin == path[0])
        return list(zip(path, path[1:])) + list(zip(rest, rest[1:]))

    def _behind(self, twin):
        """The list of the twins next to a twin, the younger note not being made on the way."""
        place, lot, other = twin
        if self._is_at_end(twin):
            calls = self.calls[place[0]] if self.kind == BACK else []
            return [((call[0], nexts_of(self.book, call)[0]), lot, other) for call in calls]
        inner = opened_by(self.book, place)
        if other is None:
            lots = self.watch.lots(place, lot) if inner is None else self.watch.single.states_behind(inner, lot)
            return self._moved(place, [(after, None) for after in lots]) + self._opened(twin)
        if inner is None:
            return self._moved(place, self.watch.pairs(place, (lot, other)))
        return self._moved(place, self.watch.paired.states_behind(inner, (lot, other))) + self._opened(twin)

    def _moved(self, place, pairs):
        """The list of the twins of these pairs at the places next to one in its block."""
        return [((place[0], to), pair[0], pair[1]) for pair in pairs for to in nexts_of(self.book, place)]

    def _is_at_end(self, twin):
        """Whether a twin is at the end of a block."""
        return twin[0][1] == block_end(self.book, twin[0][0])

    def _opened(self, twin):
        """The list of the twin in the block that a call opens, if it may stay open."""
        if self.kind == BACK or self._is_at_end(twin):
            return []
        inner = opened_by(self.book, twin[0])
        return [] if inner is None else [((inner, 0), twin[1], twin[2])]

    def _within(self, twin):
        """The twins next to a twin from which the elder note can come back to where it was."""
        return self._kept(twin, self._behind(twin))

    def _kept(self, twin, behind):
        """Those of the twins behind one from which the elder note can come back to where it was."""
        knot = self.knots[(twin[0], twin[1])]
        return [after for after in behind if self.knots[(after[0], after[1])] == knot]

    def _rows_between(self, twin, after):
        """For each row from a twin to a next one its place, and whether the younger note is not made yet."""
        place, lot, other = twin
        if self._is_at_end(twin):
            return []
        found = [(place, other is None)]
        inner = opened_by(self.book, place)
        if inner is None or after in self._opened(twin):
            return found
        end = block_end(self.book, inner)
        if after[2] is None:
            steps = self.watch.single.path(inner, lot, (end, after[1]))
            return found + [(at, True) for at, state, which in steps]
        steps = self.watch.paired.path(inner, (lot, other), (end, (after[1], after[2])))
        return found + [(at, pair[1] is None) for at, pair, which in steps]

    def _ring_of(self, walk):
        """The ring of a walk."""
        edges = [self._rows_between(twin, after) for twin, after in walk]
        head, turn = self._head_on(walk)
        ahead = [row[0] for edge in edges[:turn] for row in edge]
        rest = [row[0] for edge in edges[turn:] for row in edge]
        made = len([row for row in edges[0] if row[1]]) - 1
        k = made + len(rest) if ahead else made
        rows = tuple(rest + ahead)
        lot = walk[turn][0][1]
        if row_holders(self.book, rows[k + 1 :], (row_of(self.book, rows[k])[1],)) != lot:
            # The note that is made comes to where the elder one is but a round later.
            rows = rows + rows
        return (self.kind, head, rows, k, lot)

    def _head_on(self, walk):
        """The pair of a head and of the number of a twin on a walk with which it begins, or, of a back, ends."""
        for number, (twin, after) in enumerate(walk):
            if after in self._opened(twin):
                return ((after[0][0], -1), (number + 1) % len(walk))
            if self._is_at_end(twin):
                return ((twin[0][0], -1), number)
        # All rows are in one block: the again ahead of the others is that which is never left.
        places = [twin[0] for twin, after in walk]
        return (min(places), places.index(min(places)))


def found_ring(book):
    """A ring of a book, or None."""
    watch = Watch(book)
    ring = WalkSearch(book, THERE, watch).found()
    return WalkSearch(book, BACK, watch).found() if ring is None else ring
