"""Holders: which names hold a note along a way, told from the rows alone."""

from putoffpiles.errors import NoLot, NoWay
from putoffpiles.programs import ASKING, is_lot, is_way, names, row_at


def lot_behind(row, lot):
    """The lot of the names that hold a note behind a row if just those of a lot do ahead, None if it is worked out."""
    word = row[0]
    if word in ASKING:
        return None if row[1] in lot else lot
    if word == "note":
        return with_name(lot, row[1], any([y in lot for y in row[3]]))
    if word == "copy":
        return with_name(lot, row[1], row[2] in lot)
    if word == "give":
        return with_name(lot, row[1], False)
    return lot


def with_name(lot, name, is_in):
    """The lot with this name in it or not, all others as they were."""
    others = [each for each in lot if each != name]
    return tuple(sorted(others + [name])) if is_in else tuple(others)


def holders(program, way, lot):
    """The lot of the names that hold a note at the end of a way if just those of a lot do where it begins.

    None if it is worked out on the way.
    """
    if not is_way(program, way):
        raise NoWay()
    if not is_lot(names(program), lot):
        raise NoLot()
    for place in way[:-1]:
        lot = lot_behind(row_at(program, place), lot)
        if lot is None:
            return None
    return lot
