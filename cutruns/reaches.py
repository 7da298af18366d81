"""Where threads can come by runs of one leg, each done alone, and with which words."""

from cutruns.choices import needed
from cutruns.ends import Ends
from cutruns.pieces import LAST
from cutruns.readings import do_agree, read_legs
from cutruns.searches import Search

# The row of one leg without items and bans.
FREE = (((), ()),)


class Reach:
    """What a search for the row FREE found of a thread, all of which is settled."""

    def __init__(self, search):
        self.search = search
        # Of each place the standings there ahead of the cut, those with fewer moves first.
        self.stands = {}
        for stand in search.settled:
            base, phase, place, _, _ = stand
            if base == () and phase == 0:
                self.stands.setdefault(place, []).append(stand)

    def stands_at(self, place):
        """The list of the standings at the place."""
        return self.stands.get(place, [])

    def modes_at(self, place):
        """The rising list of the modes in which the thread can stand at the place."""
        return sorted({mode for _, _, _, mode, _ in self.stands_at(place)})

    def moves_to(self, stand):
        """How many moves a shortest way to the stand has."""
        return self.search.least[stand]

    def run_to(self, stand):
        """The list of the numbers of a shortest way to the stand, in which no cut is."""
        return self.search.legs_to(stand)[0]

    def word_of(self, stand):
        """The word of the runs to the standing, the cut behind it."""
        return *self.search.piece_of(stand), LAST

    def words_at(self, place):
        """The list of the words of the runs to the place, without like ones."""
        return list({self.word_of(stand): True for stand in self.stands_at(place)})

    def shortest_through(self, procedure):
        """The stand of a shortest through of the procedure from the mode 0, None if there is none."""
        found = self.search.through.get((procedure, 0, 0), [])
        return min(found, key=self.moves_to, default=None)


def wide_reach(program, thread):
    """The reach of the thread, however many words it has."""
    search = Search(program, thread, FREE)
    search.begin_standings()
    while search.settle() is not None:
        pass
    return Reach(search)


def told_reaches(program):
    """The list of the reaches of all threads: TooMany if one has too many withins or words."""
    reaches = []
    # Threads that begin with one procedure have one reach.
    known = {}
    for thread, home in enumerate(program.threads()):
        if home not in known:
            ends = Ends(program, thread, FREE)
            ends.find_all()
            known[home] = Reach(ends.search)
        reaches.append(known[home])
    return reaches


class Pairs:
    """Words of one leg, told by COUNTS, and which two of them agree."""

    def __init__(self):
        self.numbers = {}
        self.legs = []
        # Of each two words, and of each two tuples of words, whether they, or some of them, agree.
        self.looked = {}
        self.told = {}

    def numbers_of(self, words):
        """The tuple of those of the words that matter to whether some of them agree with others."""
        return tuple([self._number(word) for _, word in needed([(0, word) for word in words])])

    def _number(self, word):
        if word not in self.numbers:
            self.numbers[word] = len(self.legs)
            self.legs.append(read_legs(word))
        return self.numbers[word]

    def some_agree(self, ones, others):
        """Whether one of the ones agrees with one of the others."""
        if (ones, others) not in self.told:
            self.told[ones, others] = self._some_agree(ones, others)
        return self.told[ones, others]

    def _some_agree(self, ones, others):
        for one in ones:
            for other in others:
                if self._agree(one, other):
                    return True
        return False

    def _agree(self, one, other):
        if (one, other) not in self.looked:
            self.looked[one, other] = do_agree([self.legs[one], self.legs[other]])
        return self.looked[one, other]
