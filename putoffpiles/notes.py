"""Notes: what names hold, what is noted beneath, and how it is worked out and taken back."""

from putoffpiles.errors import NoFunctions, NoNote
from putoffpiles.programs import ASKING, is_number_below

WRITING = ("note", "copy", "give", "drop")
NOTHING = ("worth", 0)


def functions_of(wanted, functions):
    """A dict of its own with the functions of the wanted ops: NoFunctions if it is no dict with these."""
    if not isinstance(functions, dict) or not all([op in functions for op in wanted]):
        raise NoFunctions()
    return {op: functions[op] for op in wanted}


class Holding:
    """What each name holds, and how rows change it; where notes are kept is told by the classes below.

    A thing that is held is ("worth", w), or ("note", k) where k is the index of the note in made.
    """

    def __init__(self, functions):
        self.functions = functions
        self.heads = {}
        self.made = []
        self.worths = {}
        self.order = []
        self.printed = []

    def do(self, row):
        """Does a row, or the ("drop", x) of a session; a row that only leads elsewhere changes nothing."""
        word = row[0]
        if word in ASKING:
            self._work_out(self.held(row[1]))
        if word == "print":
            self.printed.append(self.held(row[1])[1])
        elif word == "note":
            parts = tuple([self.held(name) for name in row[3]])
            self.heads[row[1]] = ("note", self._put_off(row[2], parts))
        elif word == "copy":
            self.heads[row[1]] = self.held(row[2])
        elif word == "give":
            self.heads[row[1]] = ("worth", row[2])
        elif word == "drop":
            del self.heads[row[1]]

    def held(self, name):
        """What a name holds; one that was never written holds 0."""
        return self._now(self.heads.get(name, NOTHING))

    def waiting(self):
        """The lot of the numbers of notes that wait."""
        return tuple(sorted(self._numbers(self._met())))

    def worked(self):
        """The numbers of the notes that are worked out, in the order in which they were."""
        return tuple(self.order)

    def said(self):
        """What was printed."""
        return tuple(self.printed)

    def _put_off(self, op, parts):
        """Keeps a new note, and tells its index."""
        self.made.append((op, parts))
        return len(self.made) - 1

    def _numbers(self, kept):
        """The list of the numbers of the notes at these indexes: by each class below in its own way."""
        return list(kept)

    def _now(self, thing):
        """A thing as it is held now: the worth of a note that was worked out since."""
        kind, what = thing
        if kind == "note" and what in self.worths:
            return ("worth", self.worths[what])
        return thing

    def _open(self, things, fresh):
        """The indexes of the notes among these things that are worked out neither for good nor afresh."""
        return [what for kind, what in things if kind == "note" and what not in self.worths and what not in fresh]

    def _worth(self, thing, fresh):
        """The worth of a thing whose note, if it is one, is worked out for good or afresh."""
        kind, what = thing
        if kind == "note" and what in fresh:
            return fresh[what]
        return self._now(thing)[1]

    def _work_out(self, thing):
        """Works out a thing and all that is noted beneath, and tells how many notes that were."""
        # All functions are called ahead of the first change, so that one that raises has changed nothing.
        fresh = self._worked_out(thing)
        self.worths.update(fresh)
        self.order.extend(self._numbers(fresh))
        return len(fresh)

    def _worked_out(self, thing):
        """The worths of all notes that working out a thing works out, in the order in which it does; none is kept."""
        fresh = {}
        # A stack of the notes whose parts are under way, not calls within calls: chains have any length.
        ahead = self._open([thing], fresh)
        while ahead:
            op, parts = self.made[ahead[-1]]
            beneath = self._open(parts, fresh)
            if beneath:
                ahead.append(beneath[0])
            else:
                work = self.functions[op]
                fresh[ahead[-1]] = work(tuple([self._worth(part, fresh) for part in parts]))
                ahead.pop()
        return fresh

    def _met(self):
        """The indexes of the notes that wait, as they are met from the names on, each with its number in the shape."""
        met = {}
        ahead = [self.heads[name] for name in sorted(self.heads)][::-1]
        while ahead:
            # A note is numbered when it is taken up, not when it is put here: all beneath comes ahead of the next.
            kind, what = self._now(ahead.pop())
            if kind == "note" and what not in met:
                met[what] = len(met)
                ahead.extend(self.made[what][1][::-1])
        return met


class Notes(Holding):
    """All notes that were made, and a trail by which rows are taken back.

    The index of a note is its number. Notes that are gone stay: taking back the row that let them go brings them back.
    """

    def __init__(self, functions):
        super().__init__(functions)
        self.trail = []

    def do(self, row):
        """Does a row, and leaves on the trail what leads back."""
        name = row[1] if row[0] in WRITING else None
        mark = (name, self.heads.get(name), len(self.made), len(self.order), len(self.printed))
        super().do(row)
        self.trail.append(mark)

    def undo(self):
        """Takes the last row on the trail back."""
        name, head, made, worked, said = self.trail.pop()
        if head is not None:
            self.heads[name] = head
        elif name is not None:
            del self.heads[name]
        for number in self.order[worked:]:
            del self.worths[number]
        del self.made[made:]
        del self.order[worked:]
        del self.printed[said:]

    def work_ahead(self, number):
        """Works out a note that waits, though no row asks it, and tells how many notes that were with those beneath."""
        return self._work_out(("note", number))

    def written(self):
        """The lot of the names that were written and not dropped since."""
        return tuple(sorted(self.heads))

    def note(self, number):
        """A note that waits, or the worth of one that is worked out: NoNote for others."""
        if not is_number_below(len(self.made), number):
            raise NoNote()
        if number in self.worths:
            return ("worth", self.worths[number])
        if number not in self._met():
            raise NoNote()
        op, parts = self.made[number]
        return (op, tuple([self._now(part) for part in parts]))

    def shape(self, owners):
        """The pair (heads, notes) of the shape of what these names hold."""
        met = self._met()
        heads = self._renumbered([self.held(name) for name in owners], met)
        return (heads, tuple([(self.made[n][0], self._renumbered(self.made[n][1], met)) for n in met]))

    def copy(self):
        """The same, going on and back apart; functions are shared, as nobody changes them."""
        twin = Notes(self.functions)
        twin.heads = {name: self.heads[name] for name in self.heads}
        twin.made = list(self.made)
        twin.worths = {number: self.worths[number] for number in self.worths}
        twin.order = list(self.order)
        twin.printed = list(self.printed)
        twin.trail = list(self.trail)
        return twin

    def _renumbered(self, things, met):
        """For each thing the number in the shape of the note that it is, or -1 for a worth."""
        now = [self._now(thing) for thing in things]
        return tuple([met[what] if kind == "note" else -1 for kind, what in now])
