"""Programs: blocks of rows, the places of these, and the ways that lead through them."""

from putoffpiles.errors import BadProgram, NoPlace

MOST_ROWS_IN_BLOCK = 12
MOST_ROWS = 30
MOST_DEEP = 4
MOST_NAMES = 8
MOST_PARTS = 3
MOST_LETTERS = 8
ASKING = ("ask", "print")


def is_integer(thing):
    """Whether a thing is an integer; a flag is none, though Python counts it as one."""
    return isinstance(thing, int) and not isinstance(thing, bool)


def is_number_below(limit, thing):
    """Whether a thing is an integer from 0 on that is less than the limit."""
    return is_integer(thing) and 0 <= thing < limit


def is_name(thing):
    """Whether a thing is a name."""
    if not isinstance(thing, str) or not 1 <= len(thing) <= MOST_LETTERS:
        return False
    return all(["a" <= sign <= "z" for sign in thing])


def is_lot(members, thing):
    """Whether a thing is a lot of some of the members, which are a lot of integers or of strings themselves."""
    # A flag equals an integer, but is none.
    if not isinstance(thing, tuple) or any([isinstance(item, bool) for item in thing]):
        return False
    return thing == tuple([member for member in members if member in thing])


def is_parts(thing):
    """Whether a thing can be the parts of a note row."""
    return isinstance(thing, tuple) and len(thing) <= MOST_PARTS and all([is_name(part) for part in thing])


def is_block(deep, thing):
    """Whether a thing, so deep, can be the block of a row; what its own rows are is not judged."""
    return isinstance(thing, tuple) and len(thing) <= MOST_ROWS_IN_BLOCK and deep <= MOST_DEEP


def is_row(deep, thing, many=0):
    """Whether a thing has the form of a row in a block that is so deep; rows within it are not judged.

    Many is how many blocks may be called: none by a program, those of a book by its blocks.
    """
    # A first item that is no string is not compared: an object of any kind may stand there.
    if not isinstance(thing, tuple) or not thing or not isinstance(thing[0], str):
        return False
    word, rest = thing[0], thing[1:]
    if word == "note":
        return len(rest) == 3 and is_name(rest[0]) and is_name(rest[1]) and is_parts(rest[2])
    if word == "copy":
        return len(rest) == 2 and is_name(rest[0]) and is_name(rest[1])
    if word == "give":
        return len(rest) == 2 and is_name(rest[0]) and is_integer(rest[1])
    if word in ASKING:
        return len(rest) == 1 and is_name(rest[0])
    if word == "call":
        return len(rest) == 1 and is_number_below(many, rest[0])
    if word == "either":
        return len(rest) == 2 and is_block(deep + 1, rest[0]) and is_block(deep + 1, rest[1])
    return word == "again" and len(rest) == 1 and is_block(deep + 1, rest[0])


def blocks_of(row):
    """The blocks within a row, in their order."""
    return row[1:] if row[0] in ("either", "again") else ()


def names_of(row):
    """The names in a row that hold something, those of blocks within not among them."""
    if row[0] == "note":
        return [row[1], *row[3]]
    if row[0] == "copy":
        return [row[1], row[2]]
    return [row[1]] if row[0] == "give" or row[0] in ASKING else []


def formless_place(block, many):
    """The place of the first row that is of no form where so many blocks may be called, or None."""
    ahead = [(1, row) for row in block[::-1]]
    place = 0
    while ahead:
        deep, row = ahead.pop()
        if not is_row(deep, row, many):
            return place
        for inner in blocks_of(row)[::-1]:
            ahead.extend([(deep + 1, each) for each in inner[::-1]])
        place += 1
    return None


def rows_of(block):
    """The list of all rows of a block, in the order of their places."""
    found = []
    for row in block:
        found.append(row)
        for inner in blocks_of(row):
            found.extend(rows_of(inner))
    return found


def all_names(rows):
    """The lot of the names that hold something in any of the rows."""
    return tuple(sorted({name for row in rows for name in names_of(row)}))


def bad_place(block, many):
    """The place that BadProgram tells of a block that may call so many blocks, or None if nothing is wrong with it."""
    if not isinstance(block, tuple):
        return -1
    place = formless_place(block, many)
    if place is not None:
        return place
    rows = rows_of(block)
    if len(block) > MOST_ROWS_IN_BLOCK or len(rows) > MOST_ROWS or len(all_names(rows)) > MOST_NAMES:
        return -1
    return None


def block_leads(block, place, behind):
    """For each row of a block that begins at a place, the places next to it; behind is next to the whole block."""
    found = []
    for k, row in enumerate(block):
        end = place + len(rows_of((row,)))
        found.extend(row_leads(row, place, end if k + 1 < len(block) else behind))
        place = end
    return found


def row_leads(row, place, behind):
    """The places next to a row at a place, then those of the rows within it; behind is next to the whole row."""
    if row[0] == "either":
        first = place + 1
        second = first + len(rows_of(row[1]))
        begins = (first if row[1] else behind, second if row[2] else behind)
        return [begins] + block_leads(row[1], first, behind) + block_leads(row[2], second, behind)
    if row[0] == "again":
        begins = (place + 1 if row[1] else place, behind)
        return [begins] + block_leads(row[1], place + 1, place)
    return [(behind,)]


class Program:
    """A block of rows; equal to another one just if the block is."""

    def __init__(self, block):
        place = bad_place(block, 0)
        if place is not None:
            raise BadProgram(place)
        self.block = block
        self._rows = tuple(rows_of(block))
        self._names = all_names(self._rows)
        self._leads = tuple(block_leads(block, 0, len(self._rows)) + [()])

    def __eq__(self, other):
        return isinstance(other, Program) and self.block == other.block


def wide_program(block):
    """The program of a block that may have more rows, and deeper ones, than a caller's may, and calls, too."""
    program = Program(())
    program.block = block
    program._rows = tuple(rows_of(block))
    program._names = all_names(program._rows)
    program._leads = tuple(block_leads(block, 0, len(program._rows)) + [()])
    return program


def names(program):
    """The lot of all names that hold something in the program."""
    return program._names


def ops(program):
    """The lot of what its note rows put off."""
    return tuple(sorted({row[2] for row in program._rows if row[0] == "note"}))


def note_places(program):
    """The lot of the places of its note rows."""
    return tuple([place for place, row in enumerate(program._rows) if row[0] == "note"])


def end_of(program):
    """The place behind all rows."""
    return len(program._rows)


def row_at(program, place):
    """The row at a place."""
    if not is_number_below(len(program._rows), place):
        raise NoPlace()
    return program._rows[place]


def nexts(program, place):
    """The tuple of the places at which one may stand behind a place, none behind the end."""
    if not is_number_below(len(program._leads), place):
        raise NoPlace()
    return program._leads[place]


def is_way(program, thing):
    """Whether a thing is a way of the program."""
    if not isinstance(thing, tuple) or not thing:
        return False
    if not all([is_number_below(len(program._leads), place) for place in thing]):
        return False
    return all([after in program._leads[place] for place, after in zip(thing, thing[1:])])
