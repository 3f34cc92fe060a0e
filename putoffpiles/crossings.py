"""Crossings: how blocks are gone through from where they begin, calls within them being gone through to their ends."""

from heapq import heappop, heappush

from putoffpiles.books import block_end, nexts_of, opened_by, row_of


class Crossings:
    """All that comes of blocks that begin with some state, each by the fewest steps.

    States are told by turned(place, state): the list of those that the row there makes of one. A beginning is the pair
    (block, state), a point within it the pair (place in the block, state). For each beginning, came tells for each
    point the one ahead of it in the same open block, and ended tells for each state at the end the number of steps.
    """

    def __init__(self, book, turned):
        self.book = book
        self.turned = turned
        self.came = {}
        self.ended = {}
        self.callers = {}
        self.queue = []
        self.many = 0

    def states_behind(self, n, state):
        """The list of the states at the end of a block that begins with a state."""
        self._go_through((n, state))
        return list(self.ended[(n, state)])

    def path(self, n, state, point):
        """The list of the triples (place, state, which) of all steps from where a block begins to a point within it."""
        self._go_through((n, state))
        found = []
        ahead = [((n, state), point, None)]
        while ahead:
            beginning, point, which = ahead.pop()
            n = beginning[0]
            if which is not None:
                found.append(((n, point[0]), point[1], which))
            before = self.came[beginning][point]
            if before is not None:
                ahead.append((beginning, before, self._which(n, before[0], point[0])))
                inner = opened_by(self.book, (n, before[0]))
                if inner is not None:
                    ahead.append(((inner, before[1]), (block_end(self.book, inner), point[1]), None))
        return found[::-1]

    def _which(self, n, place, to):
        """The number of the step from a place to a next one; a call's is 0."""
        return nexts_of(self.book, (n, place)).index(to)

    def _go_through(self, beginning):
        """Finds all that comes of a beginning."""
        self._begin(beginning)
        while self.queue:
            steps, _, beginning, point, before = heappop(self.queue)
            # What is met with the fewest steps comes first, and what a call leads to has more than the call.
            if point not in self.came[beginning]:
                self.came[beginning][point] = before
                self._go_on(steps, beginning, point)

    def _begin(self, beginning):
        """Puts a beginning that was not met yet among what is to be done."""
        if beginning not in self.came:
            self.came[beginning] = {}
            self.ended[beginning] = {}
            self.callers[beginning] = []
            self._put(0, beginning, (0, beginning[1]), None)

    def _put(self, steps, beginning, point, before):
        """Puts a point, so many steps behind its beginning, among what is to be done, if it was not met yet."""
        if point not in self.came[beginning]:
            # The count keeps apart what has as many steps, so that nothing else is compared.
            self.many += 1
            heappush(self.queue, (steps, self.many, beginning, point, before))

    def _go_on(self, steps, beginning, point):
        """Does the row at a point."""
        n, (place, state) = beginning[0], point
        if place == block_end(self.book, n):
            self.ended[beginning][state] = steps
            for caller, call, spent in self.callers[beginning]:
                self._return(spent + 1 + steps, caller, call, state)
        elif opened_by(self.book, (n, place)) is not None:
            inner = (opened_by(self.book, (n, place)), state)
            self._begin(inner)
            self.callers[inner].append((beginning, point, steps))
            for after, more in self.ended[inner].items():
                self._return(steps + 1 + more, beginning, point, after)
        else:
            turn = self.turned
            for after in turn((n, place), state):
                for to in nexts_of(self.book, (n, place)):
                    self._put(steps + 1, beginning, (to, after), point)

    def _return(self, steps, beginning, point, state):
        """Goes on behind a call at a point, with the state at the end of what was called."""
        self._put(steps, beginning, (nexts_of(self.book, (beginning[0], point[0]))[0], state), point)
