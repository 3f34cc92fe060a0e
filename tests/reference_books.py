"""A second, plain account of books: each block is made into a list of orders with jumps, a run keeps a stack of them.

What names hold is kept by the plain account of sessions, so that calls and notes may be thousands deep.
"""

import random

from putoffpiles.errors import BadProgram
from putoffpiles.programs import Program
from reference import Worth, loopy_plain_row, stands_of
from reference_piles import plain_names
from reference_sessions import Account


def code_of(block):
    """The list of the orders of a block; those that are rows have their place second."""
    code, places = [], iter(range(10 ** 6))

    def emit(rows):
        for row in rows:
            place = next(places)
            at = len(code)
            code.append(None)
            if row[0] == "either":
                emit(row[1])
                jump = len(code)
                code.append(None)
                emit(row[2])
                code[at] = ("fork", place, at + 1, jump + 1)
                code[jump] = ("jump", len(code))
            elif row[0] == "again":
                emit(row[1])
                code.append(("jump", at))
                code[at] = ("fork", place, at + 1, len(code))
            else:
                code[at] = ("call", place, row[1]) if row[0] == "call" else ("row", place, row)

    emit(block)
    return code + [("end",)]


class PlainBookRun:
    def __init__(self, blocks, functions):
        self.codes = [code_of(block) for block in blocks]
        self.account = Account(functions)
        self.names = plain_book_names(blocks)
        self.stacks = [self.settled([(0, 0)])]
        self.done, self.whiches, self.went = [], [], []

    def settled(self, stack):
        while stack:
            n, at = stack[-1]
            order = self.codes[n][at]
            if order[0] == "jump":
                stack[-1] = (n, order[1])
            elif order[0] == "end":
                stack.pop()
                if stack:
                    stack[-1] = (stack[-1][0], stack[-1][1] + 1)
            else:
                break
        return stack

    def order(self):
        n, at = self.stacks[-1][-1]
        return self.codes[n][at]

    def choices(self):
        return 0 if not self.stacks[-1] else 2 if self.order()[0] == "fork" else 1

    def step(self, which):
        stack = list(self.stacks[-1])
        n, at = stack[-1]
        order = self.order()
        if order[0] == "row":
            self.account.go(order[2])
        if order[0] == "call":
            stack.append((order[2], 0))
        else:
            stack[-1] = (n, order[2 + which] if order[0] == "fork" else at + 1)
        self.went.append(order[0] == "row")
        self.done.append((n, order[1]))
        self.whiches.append(which)
        self.stacks.append(self.settled(stack))

    def back(self):
        if self.went.pop():
            self.account.undo()
        for kept in (self.done, self.whiches, self.stacks):
            kept.pop()

    def pile(self):
        return tuple((n, self.codes[n][at][1]) for n, at in self.stacks[-1])

    def shape(self):
        met, ahead = [], [self.account.now["heads"].get(name, Worth(0)) for name in self.names[::-1]]
        while ahead:
            thing = ahead.pop()
            if self.account.tell(thing)[0] == "note" and thing.number not in [each.number for each in met]:
                met.append(thing)
                ahead.extend(thing.parts[::-1])
        numbers = [each.number for each in met]

        def mark(told):
            return numbers.index(told[1]) if told[0] == "note" else -1

        return (tuple(mark(self.account.held(name)) for name in self.names),
                tuple((each.op, tuple(mark(self.account.tell(part)) for part in each.parts)) for each in met))


def rows_in(block):
    return [stand.row for stand in stands_of(block)]


def plain_book_names(blocks):
    return tuple(sorted({name for block in blocks for name in plain_names(without_calls(block))}))


def without_calls(block):
    """The block without its calls."""
    return tuple((row[0],) + tuple(map(without_calls, row[1:])) if row[0] in ("either", "again") else row
                 for row in block if row[0] != "call")


def is_flat_call(row, many):
    return (isinstance(row, tuple) and len(row) == 2 and isinstance(row[0], str) and row[0] == "call"
            and type(row[1]) is int and row[1] in range(many))


def masked(thing, many, mask):
    """A thing with each good call in it exchanged for another row."""
    if is_flat_call(thing, many):
        return mask
    if isinstance(thing, tuple) and thing and thing[0] in ("either", "again"):
        return (thing[0],) + tuple(masked_block(inner, many, mask) for inner in thing[1:])
    return thing


def masked_block(thing, many, mask):
    return tuple(masked(row, many, mask) for row in thing) if isinstance(thing, tuple) else thing


def ends_within(block, deep, blocks):
    """Whether a block can end with calls so deep within one another."""
    def goes(row):
        if row[0] == "call":
            return deep > 0 and ends_within(blocks[row[1]], deep - 1, blocks)
        return row[0] != "either" or any(ends_within(inner, deep, blocks) for inner in row[1:])
    return all(goes(row) for row in block)


def plain_bad_part(blocks):
    """What BadBook tells, by the errors of programs that have other rows in the places of calls; None if it is a book."""
    if not isinstance(blocks, tuple) or len(blocks) not in range(1, 7):
        return (-1,)
    for n, block in enumerate(blocks):
        mask = ("ask", "a")
        try:
            Program(masked_block(block, len(blocks), mask))
        except BadProgram as bad:
            return (n, bad.place)
    if len(plain_book_names(blocks)) > 8:
        return (-1,)
    for n, block in enumerate(blocks):
        if not ends_within(block, len(blocks), blocks):
            return ("endless", n)
    reached = {0}
    for _ in blocks:
        reached |= {row[1] for n in reached for row in rows_in(blocks[n]) if row[0] == "call"}
    return next((("apart", n) for n in range(len(blocks)) if n not in reached), None)


def plain_put_in(block, blocks):
    found = ()
    for row in block:
        if row[0] == "call":
            found += plain_put_in(blocks[row[1]], blocks)
        elif row[0] in ("either", "again"):
            found += ((row[0],) + tuple(plain_put_in(inner, blocks) for inner in row[1:]),)
        else:
            found += (row,)
    return found


def leads_to(blocks, n):
    """The set of the blocks to which a block leads by one call at least."""
    found = {row[1] for row in rows_in(blocks[n]) if row[0] == "call"}
    for _ in blocks:
        found |= {row[1] for inner in found for row in rows_in(blocks[inner]) if row[0] == "call"}
    return found


def is_knotted(blocks):
    return any(n in leads_to(blocks, n) for n in range(len(blocks)))


def book_block(chance, letters, callable_blocks, deep, most):
    rows = []
    for _ in range(chance.randint(0 if deep > 1 else 1, most)):
        kind = chance.random()
        if kind < 0.22 and callable_blocks:
            rows.append(("call", chance.choice(callable_blocks)))
        elif kind < 0.4 and deep < 4:
            rows.append(("either", book_block(chance, letters, callable_blocks, deep + 1, 2),
                         book_block(chance, letters, callable_blocks, deep + 1, 2)))
        elif kind < 0.48 and deep < 4:
            rows.append(("again", book_block(chance, letters, callable_blocks, deep + 1, 2)))
        else:
            rows.append(loopy_plain_row(chance, letters))
    return tuple(rows)


def some_books(many, seed, knots=None, most_blocks=4, most_names=3, most_rows=4):
    """The blocks of so many books, the same at each call; knots tells whether they have such, None for both."""
    chance = random.Random(seed)
    found = []
    while len(found) < many:
        size = chance.randint(1, most_blocks)
        letters = "abcdefgh"[: chance.randint(1, most_names)]
        blocks = tuple(book_block(chance, letters, range(n + 1, size) if knots is False else range(size), 1, most_rows)
                       if chance.random() < 0.95 else () for n in range(size))
        if plain_bad_part(blocks) is None and knots in (None, is_knotted(blocks)):
            found.append(blocks)
    return found
