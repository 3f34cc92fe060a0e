"""A second, plain account of what comes in books: shapes by objects that lead to one another, and rings word by word."""

from reference import Noted, Worth
from reference_books import code_of, plain_book_names, rows_in
from reference_passages import plain_back, plain_there
from reference_piles import plain_lot


def objects_of(shape):
    """What each name holds, by objects."""
    heads, notes = shape
    made = [Noted(number, op, None) for number, (op, parts) in enumerate(notes)]
    for each, (_, parts) in zip(made, notes):
        each.parts = [made[part] if part >= 0 else Worth(0) for part in parts]
    return [made[head] if head >= 0 else Worth(0) for head in heads]


def shape_of(things):
    """The pair (heads, notes) of what names hold; a note that is done is a worth."""
    met, ahead = {}, list(things)[::-1]
    order = []
    while ahead:
        thing = ahead.pop()
        if isinstance(thing, Noted) and thing.done is None and id(thing) not in met:
            met[id(thing)] = len(met)
            order.append(thing)
            ahead.extend(thing.parts[::-1])

    def mark(thing):
        return met.get(id(thing), -1)

    return (tuple(map(mark, things)), tuple((each.op, tuple(map(mark, each.parts))) for each in order))


def shape_behind(owners, shape, row):
    held = dict(zip(owners, objects_of(shape)))
    if row[0] == "note":
        held[row[1]] = Noted(None, row[2], [held[y] for y in row[3]])
    elif row[0] == "copy":
        held[row[1]] = held[row[2]]
    elif row[0] == "give":
        held[row[1]] = Worth(row[2])
    elif row[0] in ("ask", "print"):
        ahead = [held[row[1]]]
        while ahead:
            thing = ahead.pop()
            if isinstance(thing, Noted):
                thing.done = Worth(0)
                ahead.extend(thing.parts)
    return shape_of([held[name] for name in owners])


def plain_book_shapes(blocks, most):
    """The set of all shapes that come between two steps, or None if there are more.

    What comes at the end of a block that began with a shape is worked out again and again till nothing new comes.
    """
    owners, codes = plain_book_names(blocks), [code_of(block) for block in blocks]
    begins, ends, shapes, kept = {(0, ((-1,) * len(owners), ()))}, {}, set(), {}
    size = None
    while size != (len(begins), sum(map(len, ends.values())), len(shapes)):
        size = (len(begins), sum(map(len, ends.values())), len(shapes))
        for n, begun in sorted(begins):
            ahead, seen = [(0, begun)], set()
            while ahead:
                at, shape = ahead.pop()
                if (at, shape) in seen:
                    continue
                seen.add((at, shape))
                shapes.add(shape)
                if len(shapes) > most:
                    return None
                order = codes[n][at]
                if order[0] == "jump":
                    ahead.append((order[1], shape))
                elif order[0] == "fork":
                    ahead += [(to, shape) for to in order[2:]]
                elif order[0] == "call":
                    begins.add((order[2], shape))
                    ahead += [(at + 1, after) for after in ends.get((order[2], shape), ())]
                elif order[0] == "row":
                    if (shape, order[2]) not in kept:
                        kept[shape, order[2]] = shape_behind(owners, shape, order[2])
                    ahead.append((at + 1, kept[shape, order[2]]))
                else:
                    ends.setdefault((n, begun), set()).add(shape)
    return shapes


def lot_behind_rows(blocks, rows, lot):
    """The frozenset of those that hold a note behind rows, None if it is worked out."""
    for n, place in rows:
        lot = lot if lot is None else plain_lot(rows_in(blocks[n])[place], lot)
    return lot


def plainly_book_ring(blocks, thing):
    """Whether a tuple of the right kinds is a ring of a book, word by word."""
    kind, head, rows, k, lot = thing
    if kind == "there" and not plain_there(blocks, head, rows):
        return False
    if kind == "back" and not (head[1] == -1 and plain_back(blocks, head[0], rows)):
        return False
    if k not in range(len(rows)):
        return False
    row = rows_in(blocks[rows[k][0]])[rows[k][1]]
    return (row[0] == "note" and lot != () and lot == tuple(sorted(set(lot) & set(plain_book_names(blocks))))
            and lot_behind_rows(blocks, rows[k + 1 :], frozenset(row[1:2])) == frozenset(lot)
            and lot_behind_rows(blocks, rows, frozenset(lot)) == frozenset(lot))
