"""Lots of words, one out of each of several lists, that agree."""

from cutruns.pieces import MOST_LOCKS, mask_of
from cutruns.readings import do_agree, read_legs


class Candidate:
    """A word of a list, with its moves; its name tells it among all of them."""

    def __init__(self, name, moves, word):
        self.name = name
        self.length = moves
        self.told = word
        self.legs = read_legs(word)


def least_lot(lists):
    """Out of lists of tuples (moves, word) the words, one of each, that agree with the least moves together.

    They are told as the tuple of these moves and a list of the words; None if no such words agree.
    """
    choice = Choice(lists)
    choice.narrow()
    choice.look_through([], 0)
    return choice.best


def needed(told):
    """The tuples (moves, word) but for those that another one outdoes, sorted by their moves.

    It outdoes them with the same edges, no more moves, and no used lock that they don't use at the same edge too: where
    they agree with others it does so, too.
    """
    left = []
    kept = {}
    for moves, used, word in sorted([(least, _used_mask(one), one) for least, one in told]):
        edges = tuple([part[:2] for part in word])
        others = kept.setdefault(edges, [])
        if not any([other & used == other for other in others]):
            others.append(used)
            left.append((moves, word))
    return left


def _used_mask(word):
    """The number whose bits are the used locks of all parts; it is less than that of a word that uses more."""
    mask = 0
    for _, _, used in word:
        mask = (mask << MOST_LOCKS) + mask_of(used)
    return mask


class Choice:
    """A search for the words that agree with the least moves."""

    def __init__(self, lists):
        self.lists = []
        for at, told in enumerate(lists):
            left = needed(told)
            self.lists.append([Candidate((at, which), moves, word) for which, (moves, word) in enumerate(left)])
        # Of the names of each two candidates that were looked at whether their words agree.
        self.pairs = {}
        self.best = None

    def narrow(self):
        """Leave out candidates that agree with none of another list, as long as there are some."""
        left = sum([len(told) for told in self.lists]) + 1
        while left > sum([len(told) for told in self.lists]):
            left = sum([len(told) for told in self.lists])
            for at in range(len(self.lists)):
                others = self.lists[:at] + self.lists[at + 1:]
                self.lists[at] = [one for one in self.lists[at] if self._has_partners(one, others)]

    def _has_partners(self, one, lists):
        return all([self._has_partner(one, others) for others in lists])

    def _has_partner(self, one, others):
        for other in others:
            if self._pair_agrees(one, other):
                return True
        return False

    def _pair_agrees(self, one, other):
        names = (min([one.name, other.name]), max([one.name, other.name]))
        if names not in self.pairs:
            self.pairs[names] = do_agree([one.legs, other.legs])
        return self.pairs[names]

    def look_through(self, chosen, moves):
        """Look for a lot with fewer moves than the best one, among all that begin with the chosen ones, which agree."""
        at = len(chosen)
        if at == len(self.lists):
            self.best = (moves, [one.told for one in chosen])
            return
        for one in self.lists[at]:
            if self.best is not None and moves + one.length + self._rest_behind(at) >= self.best[0]:
                return
            if self._agrees_with(one, chosen):
                self.look_through([*chosen, one], moves + one.length)

    def _rest_behind(self, at):
        """The least moves of the lists behind this one, none of which is empty."""
        return sum([told[0].length for told in self.lists[at + 1:]])

    def _agrees_with(self, one, chosen):
        if not all([self._pair_agrees(one, other) for other in chosen]):
            return False
        return len(chosen) < 2 or do_agree([one.legs, *[other.legs for other in chosen]])
