"""All withins and standings of a thread for a row, each with the fewest moves to it."""

from heapq import heappop, heappush

from cutruns.errors import TooMany
from cutruns.rules import Rules

MOST_WITHINS = 20000

# How many moves a call gone through takes beside its through: itself, and BACK.
AROUND = 2


class Search:
    """A search through all stands that follow by the rules: the withins first of all, then the standings.

    The fewest moves to a stand are never fewer than those to the stands from which it follows, so stands are settled in
    the sequence of their moves, and nothing behind a settled one makes its moves fewer.
    """

    def __init__(self, program, thread, row):
        self.rules = Rules(program, thread, row)
        # Of each stand that was found the fewest moves so far, the stand ahead and the steps from there.
        self.least = {}
        self.ahead = {}
        self.queue = []
        self.settled = {}
        # Of each base the settled throughs, and the settled stands with calls that may take one of them.
        self.through = {}
        self.waiting = {}
        for stand in self.rules.begin_stands():
            self._find(stand, 0, None, ())
        while self.settle() is not None:
            if len(self.least) > MOST_WITHINS:
                raise TooMany("withins", MOST_WITHINS)
        self.many_withins = len(self.least)

    def begin_standings(self):
        """Let the standings be settled from now on."""
        self._find(self.rules.first_stand(), 0, None, ())

    def many_standings(self):
        """How many standings were found."""
        return len(self.least) - self.many_withins

    def settle(self):
        """Settle the next stand, and tell it; None if none is left."""
        stand = self._next()
        if stand is None:
            return None
        self.settled[stand] = True
        for later, steps in self.rules.following(stand):
            own = sum([1 for step in steps if step is not None])
            self._find(later, self.least[stand] + own, stand, steps)
        for base, call in self.rules.calls(stand):
            self.waiting.setdefault(base, []).append((stand, call))
            for through in self.through.get(base, []):
                self._go_through(stand, call, through)
        if self.rules.is_through(stand):
            self.through.setdefault(stand[0], []).append(stand)
            for ahead, call in self.waiting.get(stand[0], []):
                self._go_through(ahead, call, stand)
        return stand

    def _next(self):
        while len(self.queue) > 0:
            _, stand = heappop(self.queue)
            if stand not in self.settled:
                return stand
        return None

    def _find(self, stand, moves, ahead, steps):
        if stand not in self.least or moves < self.least[stand]:
            self.least[stand] = moves
            self.ahead[stand] = (ahead, steps)
            heappush(self.queue, (moves, stand))

    def _go_through(self, stand, call, through):
        moves = self.least[stand] + self.least[through] + AROUND
        for later, steps in self.rules.passed(stand, call, through):
            self._find(later, moves, stand, steps)

    def piece_of(self, stand):
        """The piece of the stand: a stem or a word."""
        return self.rules.store.pieces[stand[4]]

    def legs_to(self, stand):
        """The list of the lists of the numbers of a shortest way to the stand, cut where it is cut."""
        told = []
        # A through is told by the way to it, so what is left to be told stands in one list, the last of it first.
        left = [stand]
        while len(left) > 0:
            step = left.pop()
            if isinstance(step, tuple):
                ahead, steps = self.ahead[step]
                if ahead is not None:
                    left.append(ahead)
                left.extend(steps)
            else:
                told.append(step)
        legs = [[]]
        for step in told[::-1]:
            if step is None:
                legs.append([])
            else:
                legs[-1].append(step)
        return legs
