"""Stands: where one stands in a book, whatever the names hold."""

from putoffpiles.books import block_end, nexts_of, opened_by
from putoffpiles.errors import BadStep, IsOver
from putoffpiles.programs import is_number_below


class Stand:
    """All that was stood at so far, the last one being where one stands now.

    Each of it is the pair (place, beneath), or None at the end. What is beneath is the number, in calls, of the open
    call of the block, -1 for MAIN's own beginning; a call there is such a pair itself.
    """

    def __init__(self, book):
        self.book = book
        self.calls = []
        self.stood = [self._settled(0, 0, -1)]

    def choices(self):
        """How many next places there are."""
        now = self.stood[-1]
        return 0 if now is None else len(nexts_of(self.book, now[0]))

    def judge(self, which):
        """Raises IsOver at the end, BadStep for what is no number of a next place."""
        if self.choices() == 0:
            raise IsOver()
        if not is_number_below(self.choices(), which):
            raise BadStep()

    def go(self, which):
        """Goes to the next place with this number."""
        place, beneath = self.stood[-1]
        inner = opened_by(self.book, place)
        if inner is None:
            self.stood.append(self._settled(place[0], nexts_of(self.book, place)[which], beneath))
        else:
            self.calls.append((place, beneath))
            self.stood.append(((inner, 0), len(self.calls) - 1))

    def undo(self):
        """Goes back to where one stood ahead of this."""
        self.stood.pop()
        if opened_by(self.book, self.stood[-1][0]) is not None:
            self.calls.pop()

    def piled(self):
        """The tuple of the open calls, the lowest first, and of the place of the next row; () at the end."""
        now = self.stood[-1]
        if now is None:
            return ()
        place, beneath = now
        found = [place]
        while beneath >= 0:
            place, beneath = self.calls[beneath]
            found.append(place)
        return tuple(found[::-1])

    def passed(self):
        """The tuple of the places of the rows done."""
        return tuple([place for place, _ in self.stood[:-1]])

    def copy(self):
        """The same, going on and back apart."""
        twin = Stand(self.book)
        twin.calls = list(self.calls)
        twin.stood = list(self.stood)
        return twin

    def _settled(self, n, place, beneath):
        """Where one stands at a place of a block: behind its call if it is its end, and so on."""
        while place == block_end(self.book, n):
            if beneath < 0:
                return None
            call, beneath = self.calls[beneath]
            n, place = call[0], nexts_of(self.book, call)[0]
        return ((n, place), beneath)
