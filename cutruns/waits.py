"""Threads that wait for locks: what they wait with, and whether they can do so all at once."""

from cutruns.choices import least_lot
from cutruns.errors import TooMany
from cutruns.machine import MOST_EVENTS
from cutruns.pieces import held_by, mask_of
from cutruns.reaches import told_reaches
from cutruns.weaving import woven


def lock_wanted(machine, place):
    """The lock for which the place waits, None if it waits for none."""
    steps = [machine.steps[number] for number in machine.leaving[place]]
    if len(steps) == 0 or not all([kind == "take" for _, kind, _, _ in steps]):
        return None
    locks = sorted({what for _, _, what, _ in steps})
    return locks[0] if len(locks) == 1 else None


class Waits:
    """The waiting words of a thread, told by tuples (lock, moves, word), and how it ends.

    Ending is told by the fewest moves with which the thread can end, None if it can't.
    """

    def __init__(self, told, ending):
        self.ending = ending
        # The tuples (moves, word) of each lock that is waited for, with each mask of locks that are held then, and with
        # each single lock that is.
        self.by_mask = {}
        self.by_lock = {}
        for wanted, moves, word in told:
            held = held_by(word)
            self.by_mask.setdefault((wanted, mask_of(held)), []).append((moves, word))
            for lock in held:
                self.by_lock.setdefault((wanted, lock), []).append((moves, word))


class Waiter:
    """A thread that may come to wait, or to its end: its waits, with the ways there."""

    def __init__(self, machine, home, reach):
        self.reach = reach
        # Of each lock that is waited for and each word with which it is the stand of a shortest way there.
        self.ways = {}
        for place in range(machine.flow.places):
            wanted = lock_wanted(machine, place)
            if wanted is not None:
                for stand in reach.stands_at(place):
                    self._keep((wanted, reach.word_of(stand)), stand)
        self.through = reach.shortest_through(home)
        ending = None if self.through is None else reach.moves_to(self.through)
        told = [(wanted, reach.moves_to(stand), word) for (wanted, word), stand in self.ways.items()]
        self.waits = Waits(told, ending)

    def _keep(self, key, stand):
        if key not in self.ways or self.reach.moves_to(stand) < self.reach.moves_to(self.ways[key]):
            self.ways[key] = stand

    def run_to_wait(self, wanted, word):
        """A shortest run that waits for the lock with the word."""
        return self.reach.run_to(self.ways[wanted, word])

    def run_to_end(self):
        """A shortest run that ends."""
        return self.reach.run_to(self.through)


def waiters_of(machine, program):
    """The list of the waiters of all threads: TooMany if one has too many withins or words."""
    waiters = []
    known = {}
    for home, reach in zip(machine.homes, told_reaches(program)):
        if home not in known:
            known[home] = Waiter(machine, home, reach)
        waiters.append(known[home])
    return waiters


def waiting_schedule(program, waiters, moves, told):
    """A schedule of so many moves that ends or waits, the threads being told by None or by a tuple (lock, word).

    A thread that is not told stays where it begins.
    """
    if moves > MOST_EVENTS:
        raise TooMany("events", MOST_EVENTS)
    schedule = []
    runs = []
    for thread, way in told:
        if way is None:
            schedule.extend([(thread, number) for number in waiters[thread].run_to_end()])
        else:
            wanted, word = way
            runs.append((thread, [waiters[thread].run_to_wait(wanted, word)]))
    # Those that end hold nothing then, so the others go on as if they were alone.
    return schedule + woven(program, runs)[0]


def least_ring(waits, many_locks):
    """Of threads told by their waits, each to wait for a lock of the next one, the least moves to such a ring.

    They are told as a tuple of the moves and of the list of the tuples (lock, word) of the threads; None if no ring
    comes.
    """
    best = None
    for locks in _unlike_locks(len(waits), many_locks):
        # The last one waits for a lock of the first one.
        lists = [one.by_lock.get((lock, locks[at - 1]), []) for at, (one, lock) in enumerate(zip(waits, locks))]
        lot = least_lot(lists) if all([len(told) > 0 for told in lists]) else None
        if lot is not None and (best is None or lot[0] < best[0]):
            best = (lot[0], list(zip(locks, lot[1])))
    return best


def _unlike_locks(many, many_locks):
    """The list of all lists of so many unlike locks."""
    found = [[]]
    for _ in range(many):
        found = [[*locks, lock] for locks in found for lock in range(many_locks) if lock not in locks]
    return found


def rings_of(many):
    """The list of all lists of unlike threads out of so many, the least one first in each."""
    found = []
    longer = [[first] for first in range(many)]
    while len(longer) > 0:
        found.extend(longer)
        longer = [[*ring, thread] for ring in longer for thread in range(ring[0] + 1, many) if thread not in ring]
    return found


def least_ring_of(waits, many_locks):
    """The tuple (moves, ring, tuples (lock, word)) of a ring with the least moves among threads; None if none comes."""
    best = None
    for ring in rings_of(len(waits)):
        told = least_ring([waits[thread] for thread in ring], many_locks)
        if told is not None and (best is None or told[0] < best[0]):
            best = (told[0], ring, told[1])
    return best


def least_still(waits):
    """The still choice with the least moves for all threads, None if there is none.

    It is told as a tuple of the moves and of a list with a tuple (lock, word) for each thread that waits, None for each
    one that ends.
    """
    search = StillSearch(waits)
    if all([len(options) > 0 for options in search.options]):
        search.look_through([], 0, 0, 0)
    return search.best


class Option:
    """A way to take one thread into a still choice: its least moves, and masks of locks, what it waits for and holds.

    Its lock is None, and nothing is told, where the thread ends.
    """

    def __init__(self, moves, lock, held, told):
        self.fewest = moves
        self.lock = lock
        self.wanted = 0 if lock is None else mask_of([lock])
        self.held = held
        self.told = told


class StillSearch:
    """A search for the still choice with the least moves."""

    def __init__(self, waits):
        self.options = [_options_of(one) for one in waits]
        # Of each thread on what all of them from there on have at least as moves, and may hold at most.
        self.rest_moves = [0]
        self.rest_held = [0]
        for options in self.options[::-1]:
            held = self.rest_held[0]
            for option in options:
                held = held | option.held
            self.rest_held.insert(0, held)
            self.rest_moves.insert(0, self.rest_moves[0] + min([option.fewest for option in options], default=0))
        self.best = None

    def look_through(self, chosen, moves, wanted, held):
        """Look through all choices that begin with the chosen options, whose moves and masks these are."""
        at = len(chosen)
        if self.best is not None and moves + self.rest_moves[at] >= self.best[0]:
            return
        if wanted & (held | self.rest_held[at]) != wanted:
            return
        if at == len(self.options):
            self._end(chosen, wanted)
            return
        for option in self.options[at]:
            # No lock is held by two of them.
            if option.held & held == 0:
                self.look_through([*chosen, option], moves + option.fewest, wanted | option.wanted, held | option.held)

    def _end(self, chosen, wanted):
        if wanted == 0:
            return
        lot = least_lot([option.told for option in chosen if option.lock is not None])
        if lot is None:
            return
        moves, words = lot
        moves = moves + sum([option.fewest for option in chosen if option.lock is None])
        if self.best is None or moves < self.best[0]:
            self.best = (moves, _told_choice(chosen, words))


def _options_of(waits):
    """The list of the options of a thread, those with fewer moves first."""
    options = []
    for (lock, held), told in waits.by_mask.items():
        options.append(Option(min([moves for moves, _ in told]), lock, held, told))
    if waits.ending is not None:
        options.append(Option(waits.ending, None, 0, []))
    return sorted(options, key=lambda option: option.fewest)


def _told_choice(chosen, words):
    left = list(words)
    told = []
    for option in chosen:
        told.append(None if option.lock is None else (option.lock, left.pop(0)))
    return told
