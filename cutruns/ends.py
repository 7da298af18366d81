"""The ends of threads for rows: the words of the cut runs that fit."""

from cutruns.errors import NoWord, TooMany
from cutruns.machine import MOST_EVENTS
from cutruns.rows import check_thread_and_row
from cutruns.searches import Search
from cutruns.words import check_word

MOST_WORDS = 1500


class Ends:
    """The ends of a thread for a row, each with a shortest way to it."""

    def __init__(self, program, thread, row):
        self.search = Search(program, thread, row)
        # Of each word that was found the first stand that was settled with it.
        self.stands = {}
        self.many_legs = len(row)

    def find_all(self):
        """Find all ends."""
        self._find(None)

    def find(self, word):
        """Find all ends, this word among them."""
        self._find(word)
        if word not in self.stands:
            raise NoWord(word)

    def _find(self, word):
        """Find all ends: TooMany once the word, if one is told, is among them."""
        search = self.search
        search.begin_standings()
        stand = search.settle()
        while stand is not None:
            if stand[1] == self.many_legs:
                self.stands.setdefault(search.piece_of(stand), stand)
            if len(self.stands) > MOST_WORDS and (word is None or word in self.stands):
                raise TooMany("words", MOST_WORDS)
            stand = search.settle()

    def least_to(self, word):
        """How many moves a shortest cut run with this word has."""
        return self.search.least[self.stands[word]]

    def with_lengths(self):
        """The list of the tuples (length, word) of all ends that were found."""
        return [(self.least_to(word), word) for word in self.stands]

    def shortest_to(self, word):
        """A shortest cut run with this word."""
        if self.least_to(word) > MOST_EVENTS:
            raise TooMany("moves", MOST_EVENTS)
        # Behind the last cut there is no leg.
        return self.search.legs_to(self.stands[word])[:-1]


def ends(program, thread, row):
    """The sorted list of the ends of the thread for the row."""
    check_thread_and_row(program, thread, row)
    found = Ends(program, thread, row)
    found.find_all()
    return sorted(list(found.stands))


def length_to(program, thread, row, word):
    """The length to the word."""
    return _with_word(program, thread, row, word).least_to(word)


def run_to(program, thread, row, word):
    """A cut run of the thread that fits the row, with this word, of this length."""
    return _with_word(program, thread, row, word).shortest_to(word)


def _with_word(program, thread, row, word):
    check_thread_and_row(program, thread, row)
    check_word(word)
    found = Ends(program, thread, row)
    found.find(word)
    return found
