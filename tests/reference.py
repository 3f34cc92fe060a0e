"""A second, plain way to place the rows of a block and to do them, to hold the package against.

It walks up from row to row instead of handing on what comes behind, works notes out by calls within calls, and takes
a step back by doing all but the last one anew.
"""

import random


class Stand:
    """A row with its place and where it stands."""

    def __init__(self, row, parent, siblings):
        self.row = row
        self.parent = parent
        self.siblings = siblings
        self.blocks = []
        self.place = None


def stands_of(block):
    """All stands of a block, in the order of their places."""
    found = []

    def enter(rows, parent):
        siblings = []
        for row in rows:
            stand = Stand(row, parent, siblings)
            siblings.append(stand)
            stand.place = len(found)
            found.append(stand)
            if row[0] in ("either", "again"):
                stand.blocks = [enter(inner, stand) for inner in row[1:]]
        return siblings

    enter(block, None)
    return found


def behind(stand, end):
    at = stand.siblings.index(stand)
    if at + 1 < len(stand.siblings):
        return stand.siblings[at + 1].place
    if stand.parent is None:
        return end
    if stand.parent.row[0] == "again":
        return stand.parent.place
    return behind(stand.parent, end)


def reference_nexts(block):
    """The list of the next places of all places, the end's too."""
    stands = stands_of(block)
    end = len(stands)
    found = []
    for stand in stands:
        out = behind(stand, end)
        if stand.row[0] == "either":
            found.append(tuple(inner[0].place if inner else out for inner in stand.blocks))
        elif stand.row[0] == "again":
            inner = stand.blocks[0]
            found.append((inner[0].place if inner else stand.place, out))
        else:
            found.append((out,))
    return found + [()]


class Worth:
    def __init__(self, worth):
        self.worth = worth


class Noted:
    def __init__(self, number, op, parts):
        self.number = number
        self.op = op
        self.parts = parts
        self.done = None


class ReferenceRun:
    """Does the rows of a block; functions are called with plain terms, so that doing all anew does no harm."""

    def __init__(self, block, functions, all_names):
        self.block = block
        self.functions = functions
        self.all_names = all_names
        self.rows = [stand.row for stand in stands_of(block)]
        self.leads = reference_nexts(block)
        self.steps = []
        self.begin()

    def begin(self):
        self.heads = {name: Worth(0) for name in self.all_names}
        self.notes = []
        self.order = []
        self.printed = []
        self.path = [0]

    def step(self, which):
        self.do(self.rows[self.path[-1]])
        self.path.append(self.leads[self.path[-1]][which])
        self.steps.append(which)

    def back(self):
        again = self.steps[:-1]
        self.steps = []
        self.begin()
        for which in again:
            self.step(which)

    def do(self, row):
        if row[0] == "note":
            made = Noted(len(self.notes), row[2], [self.heads[y] for y in row[3]])
            self.notes.append(made)
            self.heads[row[1]] = made
        elif row[0] == "copy":
            self.heads[row[1]] = self.heads[row[2]]
        elif row[0] == "give":
            self.heads[row[1]] = Worth(row[2])
        elif row[0] in ("ask", "print"):
            worth = self.work_out(self.heads[row[1]])
            if row[0] == "print":
                self.printed.append(worth)

    def work_out(self, thing):
        if isinstance(thing, Worth):
            return thing.worth
        if thing.done is None:
            parts = tuple([self.work_out(part) for part in thing.parts])
            thing.done = Worth(self.functions[thing.op](parts))
            self.order.append(thing.number)
        return thing.done.worth

    def tell(self, thing):
        if isinstance(thing, Noted) and thing.done is None:
            return ("note", thing.number)
        return ("worth", thing.worth if isinstance(thing, Worth) else thing.done.worth)

    def note(self, number):
        made = self.notes[number]
        if made.done is not None:
            return ("worth", made.done.worth)
        if number not in self.waiting():
            return None
        return (made.op, tuple([self.tell(part) for part in made.parts]))

    def met(self):
        found = []

        def visit(thing):
            if isinstance(thing, Noted) and thing.done is None and thing not in found:
                found.append(thing)
                for part in thing.parts:
                    visit(part)

        for name in self.all_names:
            visit(self.heads[name])
        return found

    def waiting(self):
        return tuple(sorted(made.number for made in self.met()))

    def shape(self):
        met = self.met()

        def mark(thing):
            return met.index(thing) if thing in met else -1

        heads = tuple(mark(self.heads[name]) for name in self.all_names)
        return (self.path[-1], heads, tuple((made.op, tuple(map(mark, made.parts))) for made in met))


def some_block(chance, letters, deep, most):
    """A block of rows by chance, empty ones too."""
    rows = []
    for _ in range(chance.randint(0, most)):
        word = chance.choice(("note", "note", "note", "copy", "give", "ask", "print", "either", "again"))
        name = chance.choice(letters)
        if word == "note":
            ys = tuple(chance.choice(letters) for _ in range(chance.randint(0, 3)))
            rows.append(("note", name, chance.choice(("f", "g", "add")), ys))
        elif word == "copy":
            rows.append(("copy", name, chance.choice(letters)))
        elif word == "give":
            rows.append(("give", name, chance.randint(-3, 3)))
        elif word in ("ask", "print"):
            rows.append((word, name))
        elif deep < 4 and word == "either":
            rows.append((word, some_block(chance, letters, deep + 1, 3), some_block(chance, letters, deep + 1, 3)))
        elif deep < 4:
            rows.append(("again", some_block(chance, letters, deep + 1, 3)))
    return tuple(rows)


def some_blocks(many, seed):
    """So many blocks that are within the limits, the same at each call."""
    chance = random.Random(seed)
    found = []
    while len(found) < many:
        letters = "abcdefgh"[: chance.randint(1, 4)]
        block = some_block(chance, letters, 1, 7)
        if len(stands_of(block)) <= 30:
            found.append(block)
    return found


def loopy_plain_row(chance, letters):
    name = chance.choice(letters)
    word = chance.choice(["note"] * 5 + ["copy"] * 3 + ["give", "ask", "print"])
    if word == "note":
        many = chance.choice((0, 1, 1, 1, 2, 2))
        return ("note", name, chance.choice("fg"), tuple(chance.choice(letters) for _ in range(many)))
    if word == "copy":
        return ("copy", name, chance.choice(letters))
    return ("give", name, chance.randint(0, 3)) if word == "give" else (word, name)


def loopy_block(chance, letters, deep, most):
    """A block with many choices, so that about as many have a ring as have none."""
    rows = []
    for _ in range(chance.randint(1, most)):
        kind = chance.random() if deep < 4 else 1
        if kind < 0.3:
            second = loopy_block(chance, letters, deep + 1, 2) if chance.random() < 0.5 else ()
            rows.append(("either", loopy_block(chance, letters, deep + 1, 2), second))
        elif kind < 0.4:
            rows.append(("again", loopy_block(chance, letters, deep + 1, 3)))
        else:
            rows.append(loopy_plain_row(chance, letters))
    return tuple(rows)


def loopy_blocks(many, seed):
    """So many blocks with a loop of choices in their midst, the same at each call."""
    chance = random.Random(seed)
    found = []
    while len(found) < many:
        letters = "abcd"[: chance.randint(1, 4)]
        block = loopy_block(chance, letters, 3, 2)
        block += (("again", loopy_block(chance, letters, 2, 6)),) + loopy_block(chance, letters, 3, 2)
        if len(stands_of(block)) <= 30:
            found.append(block)
    return found
