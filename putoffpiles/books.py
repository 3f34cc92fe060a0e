"""Books: blocks of rows that call one another, and the programs that do without calls."""

from putoffpiles.errors import BadBook, Knotted, NoPlace, TooMany
from putoffpiles.programs import MOST_NAMES, all_names, bad_place, blocks_of, end_of, is_number_below, names, nexts
from putoffpiles.programs import ops, row_at, rows_of, wide_program
from putoffpiles.searches import deepest_first

MOST_BLOCKS = 6
MOST_ROWS_PUT_IN = 2000


def calls_in(block):
    """The list of the numbers of the blocks that a block calls, one for each call."""
    return [row[1] for row in rows_of(block) if row[0] == "call"]


def can_end(block, ending):
    """Whether a block has a way to its end that calls only blocks that end."""
    return all([row_can_end(row, ending) for row in block])


def row_can_end(row, ending):
    """Whether there is a way behind a row that calls only blocks that end."""
    if row[0] == "call":
        return row[1] in ending
    if row[0] == "either":
        return any([can_end(block, ending) for block in blocks_of(row)])
    return True


def ending_blocks(blocks):
    """The list of the numbers of the blocks that have a way to their ends."""
    found = []
    more = [n for n, block in enumerate(blocks) if can_end(block, found)]
    while len(more) > len(found):
        found = more
        more = [n for n, block in enumerate(blocks) if can_end(block, found)]
    return found


def led_to(blocks, n):
    """The list of the numbers of the blocks to which a block leads by calls, itself only if it leads to itself."""
    found = []
    ahead = calls_in(blocks[n])
    while ahead:
        inner = ahead.pop()
        if inner not in found:
            found.append(inner)
            ahead.extend(calls_in(blocks[inner]))
    return found


def bad_part(blocks):
    """The part that BadBook tells of blocks, or None if they are a book's."""
    if not isinstance(blocks, tuple) or not 1 <= len(blocks) <= MOST_BLOCKS:
        return (-1,)
    for n, block in enumerate(blocks):
        place = bad_place(block, len(blocks))
        if place is not None:
            return (n, place)
    if len(all_names([row for block in blocks for row in rows_of(block)])) > MOST_NAMES:
        return (-1,)
    ending = ending_blocks(blocks)
    for n in range(len(blocks)):
        if n not in ending:
            return ("endless", n)
    reached = [0] + led_to(blocks, 0)
    for n in range(len(blocks)):
        if n not in reached:
            return ("apart", n)
    return None


class Book:
    """Blocks that call one another, the first one being MAIN; equal to another one just if the blocks are."""

    def __init__(self, blocks):
        part = bad_part(blocks)
        if part is not None:
            raise BadBook(part)
        self.blocks = blocks
        self._bodies = tuple([wide_program(block) for block in blocks])

    def __eq__(self, other):
        return isinstance(other, Book) and self.blocks == other.blocks


def book_names(book):
    """The lot of all names that hold something in the book."""
    return tuple(sorted({name for body in book._bodies for name in names(body)}))


def book_ops(book):
    """The lot of what its note rows put off."""
    return tuple(sorted({op for body in book._bodies for op in ops(body)}))


def book_row(book, n, place):
    """The row at a place of a block."""
    if not is_number_below(len(book.blocks), n):
        raise NoPlace()
    return row_at(book._bodies[n], place)


def is_book_place(book, thing):
    """Whether a thing is the place of a row of the book."""
    if not isinstance(thing, tuple) or len(thing) != 2 or not is_number_below(len(book.blocks), thing[0]):
        return False
    return is_number_below(end_of(book._bodies[thing[0]]), thing[1])


def row_of(book, place):
    """The row at a place, a pair."""
    return row_at(book._bodies[place[0]], place[1])


def nexts_of(book, place):
    """The tuple of the places next to a pair within its block, its end among them."""
    return nexts(book._bodies[place[0]], place[1])


def block_end(book, n):
    """The place behind all rows of a block."""
    return end_of(book._bodies[n])


def opened_by(book, place):
    """The number of the block that a call at a place opens, or None: one without rows is over at once."""
    row = row_of(book, place)
    return row[1] if row[0] == "call" and book.blocks[row[1]] else None


def calls_of(book):
    """The list of the places of all calls."""
    found = []
    for n, body in enumerate(book._bodies):
        found.extend([(n, place) for place in range(end_of(body)) if row_at(body, place)[0] == "call"])
    return found


def as_book(program):
    """The book of a program's block alone."""
    book = Book(((),))
    book.blocks = (program.block,)
    book._bodies = (program,)
    return book


def put_in(book):
    """The program that is MAIN with each call exchanged for the rows of its block."""
    leads = {n: calls_in(block) for n, block in enumerate(book.blocks)}
    if any([n in led_to(book.blocks, n) for n in leads]):
        raise Knotted()
    many = {}
    order = deepest_first(leads)
    for n in order:
        many[n] = end_of(book._bodies[n]) + sum([many[inner] - 1 for inner in leads[n]])
    if many[0] > MOST_ROWS_PUT_IN:
        raise TooMany(MOST_ROWS_PUT_IN)
    put = {}
    for n in order:
        put[n] = put_block(book.blocks[n], put)
    return wide_program(put[0])


def put_block(block, put):
    """A block with each call exchanged for what is put in for it."""
    found = []
    for row in block:
        if row[0] == "call":
            found.extend(put[row[1]])
        elif blocks_of(row):
            found.append((row[0], *[put_block(inner, put) for inner in blocks_of(row)]))
        else:
            found.append(row)
    return tuple(found)
