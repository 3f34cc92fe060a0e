"""Marks: which note rows are surely asked, and which of them must be asked at once so that nothing piles up."""

from itertools import combinations

from putoffpiles.errors import NoMarks, NoRow, TooMany
from putoffpiles.holders import lot_behind
from putoffpiles.piles import MOST_RING_NAMES, ring
from putoffpiles.programs import blocks_of, end_of, is_lot, is_number_below, names, nexts, note_places, row_at, rows_of
from putoffpiles.programs import wide_program
from putoffpiles.rings import first_spot
from putoffpiles.searches import least_path, places_of, turned

MOST_NOTE_ROWS = 10


def vain_way(program, place):
    """The least of the shortest ways to the end along which some note made at a place is not worked out, or None."""
    end = end_of(program)
    if not is_number_below(end, place) or row_at(program, place)[0] != "note":
        raise NoRow()
    path = least_path(
        [(0, None)],
        lambda state: [(to, lot) for lot in watched(program, place, state) for to in nexts(program, state[0])],
        lambda state: state[0] == end and state[1] is not None)
    return None if path is None else places_of(path)


def watched(program, place, state):
    """The list of the lots of names that may hold the note that is watched behind a state (where one stands, lot).

    The lot is None as long as that note is not made: any one that is made at the place may be it. There is none behind
    a row that works it out, or behind the end.
    """
    at, lot = state
    if at == end_of(program):
        return []
    row = row_at(program, at)
    if lot is None:
        return [None, (row[1],)] if at == place else [None]
    behind = lot_behind(row, lot)
    return [] if behind is None else [behind]


def surely(program):
    """The lot of the places of note rows whose notes are worked out on every way to the end."""
    vain = vain_spots(program)
    return tuple([place for place in note_places(program) if first_spot(program, place) not in vain])


def vain_spots(program):
    """A dict of the spots, empty lots among them, from which some way leads to the end without working the note out."""
    leads = {}
    ahead = [first_spot(program, place) for place in note_places(program)]
    while ahead:
        spot = ahead.pop()
        if spot not in leads:
            leads[spot] = [(to, lot) for lot in watched(program, None, spot) for to in nexts(program, spot[0])]
            ahead.extend(leads[spot])
    backs = turned(leads)
    found = {}
    ahead = [spot for spot in leads if spot[0] == end_of(program)]
    while ahead:
        spot = ahead.pop()
        if spot not in found:
            found[spot] = True
            ahead.extend(backs[spot])
    return found


def marked(program, places):
    """The program in which behind the note row at each of the places stands an ask of its name."""
    if not is_lot(note_places(program), places):
        raise NoMarks()
    return wide_program(marked_block(program.block, 0, places))


def marked_block(block, place, places):
    """A block that begins at a place, marked."""
    found = []
    for row in block:
        found.append(marked_row(row, place, places))
        if place in places:
            found.append(("ask", row[1]))
        place += len(rows_of((row,)))
    return tuple(found)


def marked_row(row, place, places):
    """A row at a place, its blocks marked."""
    found = [row[0]]
    place += 1
    for block in blocks_of(row):
        found.append(marked_block(block, place, places))
        place += len(rows_of(block))
    return tuple(found) if blocks_of(row) else row


def bounds(program):
    """The ascending tuple of all lots of note rows that keep all from piling up if marked, while no lot within does."""
    places = list(note_places(program))
    if len(places) > MOST_NOTE_ROWS:
        raise TooMany(MOST_NOTE_ROWS)
    if len(names(program)) > MOST_RING_NAMES:
        raise TooMany(MOST_RING_NAMES)
    found = []
    # A lot must break each ring, so that those found so far spare most searches for one more.
    breaks = []
    for many in range(len(places) + 1):
        for lot in combinations(places, many):
            if all([meets(each, lot) for each in breaks]) and not any([covers(lot, bound) for bound in found]):
                more = ring_breaks(program, lot)
                if more is None:
                    found.append(lot)
                else:
                    breaks.append(more)
    return tuple(sorted(found))


def meets(places, lot):
    """Whether some of the places are in the lot."""
    return any([place in lot for place in places])


def covers(lot, bound):
    """Whether all of a bound is in the lot."""
    return all([place in lot for place in bound])


def ring_breaks(program, lot):
    """The list of the places a mark at any of which breaks a ring of the program as the lot marks it.

    None if there is no ring left. A mark breaks it behind its own row, and wherever the row's name holds what it keeps.
    """
    left = marked(program, lot)
    found = ring(left)
    if found is None:
        return None
    place, way, kept = found
    made = (row_at(left, place)[1],)
    unmarked = dict(zip(note_places(left), note_places(program)))
    return [unmarked[at] for at in [place] + taking_rows(left, way, made) + taking_rows(left, way, kept)]


def taking_rows(program, way, lot):
    """The places of the note rows along a way whose names take on a note that just a lot holds where it begins."""
    found = []
    for place in way[:-1]:
        row = row_at(program, place)
        lot = lot_behind(row, lot)
        if row[0] == "note" and row[1] in lot:
            found.append(place)
    return found


def is_quiet(program):
    """Whether nothing piles up if all rows that are surely asked are marked."""
    return ring(marked(program, surely(program))) is None
