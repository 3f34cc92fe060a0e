"""Tracks: rows that were done one behind the other, of which it is found out in which open blocks they can have been.

Blocks that are open are numbered; 0 is the one in which the rows begin or, of a back, at the end of which they end.
Where one stands is a spot, the pair (open block, place in it). As one row may lead to equal places in unlike open
blocks, there may be several spots, and several open blocks beneath one.
"""

from putoffpiles.books import block_end, calls_of, nexts_of, opened_by


class Track:
    """The rows taken so far, and where one may stand behind them.

    For each open block, made tells by which calls it may have been made, each with the list of the open blocks that
    may lie next beneath it; leaves tells for each spot at which one may stand when it is over by which call and from
    which open block next beneath it that is so. For each number of rows, stood tells for each spot by which number a
    step led to it, and which open block was over by this step, or None.
    """

    def __init__(self, book, n):
        self.book = book
        self.blocks = [n]
        self.made = [[]]
        self.leaves = [{}]
        self.taken = []
        self.opened = []
        self.stood = []
        self.barred = None

    def begin_at(self, place):
        """Begins with one spot, in the open block 0."""
        self.stood.append({(0, place): (None, None)})

    def begin_behind_call(self):
        """Begins where a call of the block of 0 is over that was made within 0, next around it or farther."""
        first = len(self.blocks)
        many = len(self.book.blocks)
        for n in range(many):
            calls = [call for call in calls_of(self.book) if opened_by(self.book, call) == n]
            self.blocks.append(n)
            self.made.append([(call, self._callers(first, call)) for call in calls])
            self.leaves.append({})
        # Each of these stands for all open blocks of its kind, so that some may lie beneath themselves.
        grown = True
        while grown:
            grown = False
            for number in range(first, first + many):
                found = {**self._leaves_of(number), **self.leaves[number]}
                grown = grown or len(found) > len(self.leaves[number])
                self.leaves[number] = found
        called = first + self.blocks[0]
        self.stood.append({spot: (None, called) for spot in self.leaves[called]})

    def take(self, place):
        """Takes the row at a place as the next one, and tells whether it can be."""
        standing = [number for number, at in self.stood[-1] if at == place[1] and self.blocks[number] == place[0]]
        if not standing:
            return False
        inner = opened_by(self.book, place)
        if inner is None:
            self.opened.append(None)
            self.stood.append(self._spots_behind(place, standing))
        else:
            number = self._open(inner, [(place, standing)])
            self.opened.append(number)
            self.stood.append({(number, 0): (0, None)})
        self.taken.append(place)
        return True

    def unwound(self, spot):
        """The pair (steps, calls) of one way to a spot: the numbers of its steps, and the calls open where it begins.

        These are the calls within the open block 0, the lowest first, as far as the way tells of them.
        """
        steps = []
        beneath = []
        for many in range(len(self.taken), 0, -1):
            which, number = self._ahead_of(self.stood[many], spot, beneath)
            steps.append(which)
            if self.opened[many - 1] == number:
                number = beneath.pop()[1] if beneath else self.made[number][0][1][0]
            spot = (number, self.taken[many - 1][1])
        self._ahead_of(self.stood[0], spot, beneath)
        return (steps[::-1], [call for call, number in beneath])

    def _ahead_of(self, stood, spot, beneath):
        """The pair of the number of the step to a spot, and of the open block in which the row of this step was.

        What lies beneath that one is put down, each open block with the call that made the one above it.
        """
        which, over = stood[spot]
        if over is None:
            return (which, spot[0])
        found = []
        number = over
        while not found or found[-1][1] != spot[0] or nexts_of(self.book, found[-1][0])[0] != spot[1]:
            found.append(self.leaves[number][spot])
            number = found[-1][1]
        beneath.extend(found[::-1])
        return (which, over)

    def _callers(self, first, call):
        """The list of the open blocks in which a call was made, those from the first on being one for each block."""
        return [first + call[0], 0] if call[0] == self.blocks[0] else [first + call[0]]

    def _open(self, n, made):
        """The number of a new open block."""
        self.blocks.append(n)
        self.made.append(made)
        self.leaves.append({})
        number = len(self.blocks) - 1
        self.leaves[number] = self._leaves_of(number)
        return number

    def _leaves_of(self, number):
        """What leaves tells of an open block, as far as it is told of those beneath it."""
        found = {}
        for call, beneath in self.made[number]:
            place = nexts_of(self.book, call)[0]
            for other in beneath:
                if self._is_over(other, place):
                    for spot in self.leaves[other]:
                        found.setdefault(spot, (call, other))
                else:
                    found.setdefault((other, place), (call, other))
        return found

    def _is_over(self, number, place):
        """Whether an open block is over at a place, and one goes on beneath it; the end of 0 is the end of all."""
        return number != 0 and place == block_end(self.book, self.blocks[number])

    def _spots_behind(self, place, standing):
        """What stood tells behind a row, one that opens no block, in some of these open blocks."""
        found = {}
        for which, to in enumerate(nexts_of(self.book, place)):
            for number in standing:
                if self._is_over(number, to):
                    for spot in self.leaves[number]:
                        found.setdefault(spot, (which, number))
                elif (number, place, which) != (0, self.barred, 1):
                    found.setdefault((number, to), (which, None))
        return found


def there_track(book, head, rows):
    """The Track of rows and a spot at which a head begins anew behind them, or None if they are no there."""
    n, place = head
    track = Track(book, n)
    track.begin_at(max(place, 0))
    if place >= 0:
        # An again ends when one goes on behind it.
        track.barred = head
    if not rows or not take_all(track, rows):
        return None
    if place < 0 and track.opened[-1] is None:
        return None
    for spot in track.stood[-1]:
        if spot[1] == max(place, 0) and track.blocks[spot[0]] == n:
            return (track, spot)
    return None


def back_track(book, n, rows):
    """The Track of rows and the spot at the end of a block, or None if they are no back."""
    track = Track(book, n)
    track.begin_behind_call()
    spot = (0, block_end(book, n))
    return (track, spot) if take_all(track, rows) and spot in track.stood[-1] else None


def take_all(track, rows):
    """Whether a track takes all these rows."""
    for place in rows:
        if not track.take(place):
            return False
    return True
