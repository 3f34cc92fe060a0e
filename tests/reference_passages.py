"""Theres and backs by the words of the document: drawn runs that write down all of them, and a plain search with stacks."""

from reference import reference_nexts
from reference_books import PlainBookRun, rows_in


def heads_of(blocks):
    return [(n, -1) for n in range(len(blocks))] + [
        (n, place) for n, block in enumerate(blocks) for place, row in enumerate(rows_in(block)) if row[0] == "again"]


class Watched:
    """A run that writes down which heads have begun in which open block, and when calls were over."""

    def __init__(self, blocks):
        self.blocks = blocks
        self.rows = [rows_in(block) for block in blocks]
        self.run = PlainBookRun(blocks, {op: lambda row: 0 for op in "fgh"})
        self.done = []
        self.theres = {}
        self.backs = {}
        # For each open block its number, when it began, the beginnings of its agains, and the calls over within it.
        self.open = []
        self.begin_block(0)
        self.look()

    def begin_block(self, n):
        self.note_beginning((n, -1))
        self.open.append({"n": n, "at": len(self.done), "agains": {}, "over": []})

    def note_beginning(self, head):
        for block in self.open:
            starts = [block["at"]] if head == (block["n"], -1) else []
            if head[0] == block["n"]:
                starts += block["agains"].get(head[1], [])
            for at in starts:
                self.theres.setdefault(head, set()).add(tuple(self.done[at:]))

    def end_blocks(self, deep):
        """Ends open blocks until so many are left, the innermost first."""
        while len(self.open) > deep:
            ended = self.open.pop()
            for n, at in ended["over"]:
                if n == ended["n"]:
                    self.backs.setdefault(n, set()).add(tuple(self.done[at:]))
            if self.open:
                self.open[-1]["over"] += ended["over"] + [(ended["n"], len(self.done))]

    def look(self):
        """Ends the blocks that are over, and begins the again at whose row one stands."""
        pile = self.run.pile()
        self.end_blocks(len(pile))
        if pile and self.rows[pile[-1][0]][pile[-1][1]][0] == "again":
            head = pile[-1]
            self.note_beginning(head)
            self.open[-1]["agains"].setdefault(head[1], []).append(len(self.done))

    def step(self, which):
        n, place = self.run.pile()[-1]
        row = self.rows[n][place]
        self.run.step(which)
        self.done.append((n, place))
        if row[0] == "again" and which == 1:
            self.open[-1]["agains"][place] = []
        if row[0] == "call":
            # An empty block begins, too, and is over at once.
            self.begin_block(row[1])
        self.look()


class Stacks:
    """All stacks with which rows can have been done, of a block that was open first: kept whole, one by one."""

    def __init__(self, blocks, n):
        self.blocks = blocks
        self.n = n
        self.rows = [rows_in(block) for block in blocks]
        self.leads = [reference_nexts(block) for block in blocks]
        self.ends = [len(rows) for rows in self.rows]
        self.calls = [(m, place) for m, rows in enumerate(self.rows) for place, row in enumerate(rows) if row[0] == "call"]

    def after(self, place):
        return self.leads[place[0]][place[1]][0]

    def settled(self, stack):
        """All stacks that come of one whose last place may be an end; one of None is that of which nothing is left.

        The lowest item, if it is a number, stands for an open block of that number around which more may be open.
        """
        found, ahead, seen = set(), [stack], set()
        while ahead:
            stack = ahead.pop()
            if stack in seen:
                continue
            seen.add(stack)
            n, place = stack[-1]
            if place != self.ends[n]:
                found.add(stack)
            elif len(stack) > 1 and isinstance(stack[-2], tuple):
                call = stack[-2]
                ahead.append(stack[:-2] + ((call[0], self.after(call)),))
            elif len(stack) > 1:
                for call in self.calls:
                    if self.rows[call[0]][call[1]][1] == n:
                        ahead.append((call[0], (call[0], self.after(call))))
                        if call[0] == self.n:
                            ahead.append(((call[0], self.after(call)),))
            else:
                found.add(None)
        return found

    def stepped(self, stacks, place, barred=None):
        found = set()
        for stack in stacks:
            if stack is None or stack[-1] != place:
                continue
            row = self.rows[place[0]][place[1]]
            if row[0] == "call" and self.ends[row[1]]:
                found.add(stack + ((row[1], 0),))
                continue
            for which, to in enumerate(self.leads[place[0]][place[1]]):
                if len(stack) == 1 and (place, which) == (barred, 1):
                    continue
                found |= self.settled(stack[:-1] + ((place[0], to),))
        return found


def plain_there(blocks, head, rows):
    """Whether rows are a there of a head."""
    search = Stacks(blocks, head[0])
    if not rows or not blocks[head[0]]:
        return False
    stacks = {((head[0], max(head[1], 0)),)}
    for place in rows:
        stacks = search.stepped(stacks, place, head)
    if head[1] >= 0:
        return any(stack is not None and stack[-1] == head for stack in stacks)
    last = search.rows[rows[-1][0]][rows[-1][1]]
    return bool(stacks) and last == ("call", head[0])


def plain_back(blocks, n, rows):
    """Whether rows are a back of a block."""
    search = Stacks(blocks, n)
    if not blocks[n]:
        return False
    stacks = search.settled((n, (n, search.ends[n])))
    for place in rows:
        stacks = search.stepped(stacks, place)
    return None in stacks
