"""Piles: whether the notes that wait stay below one number in all runs, and which number that is."""

from putoffpiles.errors import Endless, NoNumber, NoRing, TooMany
from putoffpiles.holders import holders
from putoffpiles.outlines import first_shape, is_shape, shapes_behind
from putoffpiles.programs import end_of, is_lot, is_number_below, is_way, names, nexts, row_at
from putoffpiles.rings import RingSearch
from putoffpiles.searches import least_path, path_to, places_of

MOST_RING_NAMES = 6
MOST_SHAPES = 3000
MOST_TIMES = 1000


def ring(program):
    """A ring of the program, or None."""
    if len(names(program)) > MOST_RING_NAMES:
        raise TooMany(MOST_RING_NAMES)
    return RingSearch(program).found()


def is_ring(program, thing):
    """Whether a thing is a ring of the program."""
    if not isinstance(thing, tuple) or len(thing) != 3:
        return False
    place, way, lot = thing
    if not is_number_below(end_of(program), place) or row_at(program, place)[0] != "note":
        return False
    if not is_way(program, way) or not is_lot(names(program), lot) or not lot:
        return False
    behind = nexts(program, place)[0]
    if way[0] != behind or way[-2:] != (place, behind):
        return False
    return holders(program, way, (row_at(program, place)[1],)) == lot and holders(program, way, lot) == lot


def round_way(program, ring, times):
    """The way that goes to the ring's place, does its row, and then goes the ring so often."""
    if not is_ring(program, ring):
        raise NoRing()
    if not is_number_below(MOST_TIMES + 1, times):
        raise NoNumber()
    place, way, _ = ring
    path = least_path(
        [(0,)],
        lambda state: [(to,) for to in nexts(program, state[0])],
        lambda state: state[0] == place)
    return places_of(path) + way[:1] + way[1:] * times


def shapes_that_come(program):
    """All shapes that come, in the order of the least of the shortest ways to them, each with the one ahead of it."""
    if ring(program) is not None:
        raise Endless()
    begin = first_shape(program)
    ahead_of = {begin: None}
    found = [begin]
    at = 0
    while at < len(found):
        now = found[at]
        for shape in shapes_behind(program, now):
            if shape not in ahead_of:
                if len(found) == MOST_SHAPES:
                    raise TooMany(MOST_SHAPES)
                ahead_of[shape] = now
                found.append(shape)
        at += 1
    return ahead_of


def greatest(program):
    """The greatest number of notes that wait between two steps of any run."""
    return max([len(shape[2]) for shape in shapes_that_come(program)])


def fullest(program):
    """The least of the shortest ways behind which so many notes wait."""
    ahead_of = shapes_that_come(program)
    most = max([len(shape[2]) for shape in ahead_of])
    first = [shape for shape in ahead_of if len(shape[2]) == most][0]
    return places_of(path_to(first, ahead_of))


def shapes(program):
    """The ascending list of all shapes that come."""
    return sorted(list(shapes_that_come(program)))


def is_closed(program, thing):
    """Whether a thing is a tuple of unlike shapes, that of the beginning among them, of which no others come."""
    if not isinstance(thing, tuple) or not all([is_shape(program, shape) for shape in thing]):
        return False
    held = {shape: True for shape in thing}
    if len(held) != len(thing) or first_shape(program) not in held:
        return False
    return all([after in held for shape in thing for after in shapes_behind(program, shape)])
