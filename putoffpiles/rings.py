"""Rings: how one is found, in a graph of what names hold some note at which place.

A spot is the pair (place, lot): a note that is held by just the names of the lot, not empty, where one stands there.
"""

from putoffpiles.holders import lot_behind
from putoffpiles.programs import nexts, note_places, row_at
from putoffpiles.searches import knots_of, least_path, places_of


def spots_behind(program, spot):
    """The list of the spots next to a spot: none if the note is worked out or gone."""
    place, lot = spot
    after = nexts(program, place)
    lot = lot_behind(row_at(program, place), lot) if after else None
    return [(to, lot) for to in after] if lot else []


def first_spot(program, place):
    """The spot of a note that was just made at a place."""
    return (nexts(program, place)[0], (row_at(program, place)[1],))


def spot_leads(program):
    """For each spot at which a note may come the spots next to it."""
    leads = {}
    ahead = [first_spot(program, place) for place in note_places(program)]
    while ahead:
        spot = ahead.pop()
        if spot not in leads:
            leads[spot] = spots_behind(program, spot)
            ahead.extend(leads[spot])
    return leads


class RingSearch:
    """A search for a way along which a note just made comes where an elder one comes, and that one where it was.

    A twin is the triple (place, lot, other) for the younger note and the elder one. Once the two are held by the same
    names they stay so: the search is for a way to there from which the elder one can still come back.
    """

    def __init__(self, program):
        self.program = program
        self.leads = spot_leads(program)
        self.knots = knots_of(self.leads)

    def found(self):
        """A ring, or None."""
        path = least_path(self._begins(), self._twins_behind, lambda twin: twin[1] == twin[2])
        if path is None:
            return None
        first, last = path[0], path[-1]
        ends = [spot for spot in self._closing() if first == self._twin_behind(spot)]
        rest = least_path([(last[0], last[2])], self._spots_within, lambda spot: spot in ends)
        return (rest[-1][0], places_of(path + rest[1:]) + (first[0],), first[2])

    def _closing(self):
        """The list of the spots of an elder note at note rows behind which it may come back to where it was."""
        back = [spot for spot in self.leads if self._spots_within(spot)]
        return [spot for spot in back if row_at(self.program, spot[0])[0] == "note"]

    def _twin_behind(self, spot):
        """The twin behind a note row: its new note, and an elder one that came by this spot."""
        place, lot = first_spot(self.program, spot[0])
        return (place, lot, self.leads[spot][0][1])

    def _begins(self):
        """The list of the twins with which a ring may begin."""
        return [self._twin_behind(spot) for spot in self._closing()]

    def _spots_within(self, spot):
        """The spots next to a spot from which one can come back to it."""
        return [after for after in self.leads[spot] if self.knots[after] == self.knots[spot]]

    def _twins_behind(self, twin):
        """The twins next to a twin, the elder note being one that can come back."""
        place, lot, other = twin
        behind = self._spots_within((place, other))
        return [(to, after, others) for to, after in self.leads[(place, lot)] for at, others in behind if to == at]
