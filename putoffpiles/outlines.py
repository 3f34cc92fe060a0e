"""Outlines: the shapes that follow from shapes, without a run that has them.

Heads and parts are numbers of notes, -1 for a worth; a note is the pair (op, parts).
"""

from putoffpiles.programs import ASKING, MOST_PARTS, end_of, is_integer, is_name, is_number_below, names, nexts, row_at
from putoffpiles.searches import deepest_first


def met_from(heads, notes):
    """The numbers of the notes that are met from these heads on, each with how many were met ahead of it."""
    met = {}
    ahead = list(heads[::-1])
    while ahead:
        number = ahead.pop()
        if number >= 0 and number not in met:
            met[number] = len(met)
            ahead.extend(notes[number][1][::-1])
    return met


def renumbered(heads, notes):
    """The pair (heads, notes), notes numbered as they are met, those that nobody holds left out."""
    met = met_from(heads, notes)
    anew = {**met, -1: -1}
    kept = [(notes[number][0], tuple([anew[part] for part in notes[number][1]])) for number in met]
    return (tuple([anew[head] for head in heads]), tuple(kept))


def asked(head, heads, notes):
    """Heads and notes, those from this head on being worths from now on."""
    gone = met_from((head,), notes)
    left = [(op, tuple([-1 if part in gone else part for part in parts])) for op, parts in notes]
    return (tuple([-1 if each in gone else each for each in heads]), left)


def outline_behind(owners, row, heads, notes):
    """The pair (heads, notes) behind a row, heads being those of the owners."""
    word = row[0]
    now = dict(zip(owners, heads))
    if word == "note":
        made = (row[2], tuple([now[y] for y in row[3]]))
        notes = (*notes, made)
        now[row[1]] = len(notes) - 1
    elif word == "copy":
        now[row[1]] = now[row[2]]
    elif word == "give":
        now[row[1]] = -1
    elif word in ASKING:
        left = asked(now[row[1]], heads, notes)
        return renumbered(left[0], left[1])
    return renumbered(tuple([now[name] for name in owners]), notes)


def first_shape(program):
    """The shape of the beginning."""
    return (0, tuple([-1 for name in names(program)]), ())


def shapes_behind(program, shape):
    """The list of the shapes that come of a shape by the row at its place, ascending by place."""
    place, heads, notes = shape
    after = nexts(program, place)
    if not after:
        return []
    heads, notes = outline_behind(names(program), row_at(program, place), heads, notes)
    return [(to, heads, notes) for to in sorted(set(after))]


def is_head(many, thing):
    """Whether a thing is -1, or the number of one of so many notes."""
    return is_integer(thing) and -1 <= thing < many


def are_heads(many, most, thing):
    """Whether a thing is a tuple of such, and of so many items at most."""
    return isinstance(thing, tuple) and len(thing) <= most and all([is_head(many, head) for head in thing])


def is_noted(many, thing):
    """Whether a thing is the pair (op, parts) of a note, one of so many."""
    if not isinstance(thing, tuple) or len(thing) != 2:
        return False
    return is_name(thing[0]) and are_heads(many, MOST_PARTS, thing[1])


def has_round(notes):
    """Whether some note is beneath itself."""
    beneath = {number: [part for part in notes[number][1] if part >= 0] for number in range(len(notes))}
    turn = {number: at for at, number in enumerate(deepest_first(beneath))}
    return any([turn[part] >= turn[number] for number in beneath for part in beneath[number]])


def is_shape(program, thing):
    """Whether a thing has the form of a shape of the program, be it one that comes or not."""
    if not isinstance(thing, tuple) or len(thing) != 3:
        return False
    place, heads, notes = thing
    if not is_number_below(end_of(program) + 1, place) or not isinstance(notes, tuple):
        return False
    many = len(notes)
    if not are_heads(many, len(names(program)), heads) or len(heads) != len(names(program)):
        return False
    if not all([is_noted(many, note) for note in notes]):
        return False
    return renumbered(heads, notes) == (heads, notes) and not has_round(notes)
