"""A second, plain way to tell what piles up, to hold the package against.

Lots are frozensets that are looked up row by row, rings are searched for one place and one lot after another, shapes
are those of runs that are done from the beginning for each, and ways are gone through one by one, the least first.
"""

import itertools

from reference import ReferenceRun, reference_nexts, stands_of

TERMS = {op: lambda row, op=op: (op,) + row for op in ("f", "g", "h", "add")}


def plain_names(block):
    found = set()
    for stand in stands_of(block):
        row = stand.row
        if row[0] == "note":
            found |= {row[1], *row[3]}
        elif row[0] == "copy":
            found |= {row[1], row[2]}
        elif row[0] not in ("either", "again"):
            found.add(row[1])
    return tuple(sorted(found))


def plain_note_places(block):
    return [stand.place for stand in stands_of(block) if stand.row[0] == "note"]


def plain_lot(row, lot):
    """The frozenset behind a row, None if it is worked out."""
    if row[0] in ("ask", "print"):
        return None if row[1] in lot else lot
    if row[0] in ("note", "copy", "give"):
        held = {"note": lambda: bool(set(row[3]) & lot), "copy": lambda: row[2] in lot, "give": lambda: False}[row[0]]()
        return lot | {row[1]} if held else lot - {row[1]}
    return lot


def lots_of(names):
    """All frozensets of names, the empty one too."""
    return [frozenset(some) for many in range(len(names) + 1) for some in itertools.combinations(names, many)]


def has_plain_ring(block):
    """Whether there is a ring, by a search for each note row and each lot."""
    rows = [stand.row for stand in stands_of(block)]
    leads = reference_nexts(block)
    for place in plain_note_places(block):
        begin = leads[place][0]
        for lot in lots_of(plain_names(block))[1:]:
            ahead = [(begin, frozenset(rows[place][1]), lot)]
            seen = set(ahead)
            while ahead:
                at, one, other = ahead.pop()
                if at == len(rows):
                    continue
                one, other = plain_lot(rows[at], one), plain_lot(rows[at], other)
                if not one or not other:
                    continue
                if at == place and one == other == lot:
                    return True
                for to in leads[at]:
                    if (to, one, other) not in seen:
                        seen.add((to, one, other))
                        ahead.append((to, one, other))
    return False


def plain_shapes(block, most):
    """A dict from all shapes to the least of the shortest ways to them, in the order of these; None if more come."""
    leads = reference_nexts(block)
    names = plain_names(block)
    found = {}
    ahead = [()]
    while ahead:
        beyond = []
        for steps in ahead:
            run = ReferenceRun(block, TERMS, names)
            for which in steps:
                run.step(which)
            if run.shape() in found:
                continue
            if len(found) == most:
                return None
            found[run.shape()] = tuple(run.path)
            after = leads[run.path[-1]]
            beyond.extend(steps + (which,) for which in sorted(range(len(after)), key=lambda which: after[which]))
        ahead = beyond
    return found


def plain_vain_way(block, place):
    """The least of the shortest ways with a note of this place that is not worked out, or None."""
    rows = [stand.row for stand in stands_of(block)]
    leads = reference_nexts(block)
    ahead = [((0,), frozenset())]
    seen = set()
    while ahead:
        beyond = []
        for way, lots in ahead:
            at = way[-1]
            if (at, lots) in seen:
                continue
            seen.add((at, lots))
            if at == len(rows):
                if lots:
                    return way
                continue
            lots = {plain_lot(rows[at], lot) for lot in lots} - {None}
            if at == place:
                lots.add(frozenset(rows[at][1]))
            beyond.extend((way + (to,), frozenset(lots)) for to in sorted(set(leads[at])))
        ahead = beyond
    return None


def plain_marked(block, places):
    """The block with an ask behind each note row of the places."""
    stands = iter(stands_of(block))

    def entered(rows):
        found = []
        for row in rows:
            place = next(stands).place
            found.append((row[0],) + tuple(entered(inner) for inner in row[1:]) if row[0] in ("either", "again") else row)
            if place in places:
                found.append(("ask", row[1]))
        return tuple(found)

    return entered(block)


def plain_bounds(block):
    """All least lots of note rows to mark, the lots gone through one by one."""
    found = []
    places = plain_note_places(block)
    for many in range(len(places) + 1):
        for lot in itertools.combinations(places, many):
            if not any(set(bound) <= set(lot) for bound in found) and not has_plain_ring(plain_marked(block, lot)):
                found.append(lot)
    return tuple(sorted(found))


class Cell:
    """What lies in a memory: a note, or what it was worked out to."""

    def __init__(self, number, op, parts):
        self.number = number
        self.op = op
        self.parts = parts
        self.worth = None


class NoPlaceLeft(Exception):
    pass


class ReferenceMemory:
    """A memory whose names and parts lead to cells, objects themselves; worths are tuples of one."""

    def __init__(self, names, functions, size):
        self.functions = functions
        self.heads = {name: (0,) for name in names}
        self.cells = [None] * size
        self.order = []
        self.printed = []
        self.many = 0
        self.times = 0

    def do(self, row):
        if row[0] == "note":
            self.put(row[1], row[2], [self.heads[name] for name in row[3]])
        elif row[0] == "copy":
            self.heads[row[1]] = self.heads[row[2]]
        elif row[0] == "give":
            self.heads[row[1]] = (row[2],)
        elif row[0] in ("ask", "print"):
            worth = self.work_out(self.heads[row[1]])
            if row[0] == "print":
                self.printed.append(worth)

    def put(self, name, op, parts):
        if None not in self.cells:
            live = self.reached(list(self.heads.values()) + parts)
            if len(live) == len(self.cells):
                raise NoPlaceLeft
            self.collect(parts)
        cell = Cell(self.many, op, [self.now(part) for part in parts])
        self.many += 1
        self.cells[self.cells.index(None)] = cell
        self.heads[name] = cell

    def now(self, thing):
        return thing.worth if isinstance(thing, Cell) and thing.worth is not None else thing

    def reached(self, things):
        found = []
        for thing in map(self.now, things):
            if isinstance(thing, Cell) and thing not in found:
                found.append(thing)
                found.extend(cell for cell in self.reached(thing.parts) if cell not in found)
        return found

    def collect(self, parts=()):
        live = self.reached(list(self.heads.values()) + list(parts))
        self.heads = {name: self.now(thing) for name, thing in self.heads.items()}
        for cell in live:
            cell.parts = [self.now(part) for part in cell.parts]
        self.cells = [cell if cell in live else None for cell in self.cells]
        self.times += 1

    def work_out(self, thing):
        thing = self.now(thing)
        if isinstance(thing, tuple):
            return thing[0]
        worths = tuple([self.work_out(part) for part in thing.parts])
        thing.worth = (self.functions[thing.op](worths),)
        self.order.append(thing.number)
        return thing.worth[0]

    def tell(self, thing, word):
        thing = self.now(thing)
        return (word, self.cells.index(thing)) if isinstance(thing, Cell) else ("worth", thing[0])

    def held(self, name):
        return self.tell(self.heads[name], "note")

    def told(self):
        found = []
        for cell in self.cells:
            if cell is None:
                found.append(None)
            elif cell.worth is not None:
                found.append(("=", cell.worth[0]))
            else:
                found.append((cell.op, tuple(self.tell(part, "cell") for part in cell.parts)))
        return tuple(found)

    def waiting(self):
        return tuple(sorted(cell.number for cell in self.reached(list(self.heads.values()))))
