"""Programs: locks, cells, modes, procedures and threads."""

from cutruns.basics import is_below, is_list
from cutruns.errors import (
    InvalidBodies,
    InvalidCells,
    InvalidLocks,
    InvalidModes,
    InvalidProgram,
    InvalidThread,
    InvalidThreads,
    TooMany,
)
from cutruns.statements import is_body, is_within, size_of

MOST_THREADS = 4
MOST_STATEMENTS = 60


class Program:
    """A program, which never changes."""

    def __init__(self, locks, cells, modes, bodies, threads):
        if not is_within(locks, 0):
            raise InvalidLocks(locks)
        if not is_within(cells, 1):
            raise InvalidCells(cells)
        if not is_within(modes, 2):
            raise InvalidModes(modes)
        if not _are_bodies(locks, cells, modes, bodies):
            raise InvalidBodies(bodies)
        if not _are_threads(threads, len(bodies)):
            raise InvalidThreads(threads)
        self._locks = locks
        self._cells = cells
        self._modes = modes
        self._bodies = tuple(bodies)
        self._threads = tuple(threads)
        if sum([size_of(self.shape(), body) for body in bodies]) > MOST_STATEMENTS:
            raise TooMany("statements", MOST_STATEMENTS)

    @property
    def locks(self):
        """How many locks there are."""
        return self._locks

    @property
    def cells(self):
        """How many cells there are."""
        return self._cells

    @property
    def modes(self):
        """How many modes there are."""
        return self._modes

    def bodies(self):
        """The list of the bodies of the procedures."""
        return list(self._bodies)

    def threads(self):
        """The list of the procedures with which the threads begin."""
        return list(self._threads)

    def shape(self):
        """The shape of which the bodies are."""
        return (self._locks, self._cells, self._modes, len(self._bodies))

    def __eq__(self, other):
        return (
            isinstance(other, Program)
            and self._locks == other._locks
            and self._cells == other._cells
            and self._modes == other._modes
            and self._bodies == other._bodies
            and self._threads == other._threads
        )


def _are_bodies(locks, cells, modes, value):
    if not is_list(value) or not is_within(len(value), 3):
        return False
    shape = (locks, cells, modes, len(value))
    return all([is_body(shape, body) for body in value])


def _are_threads(value, procedures):
    if not is_list(value) or not 1 <= len(value) <= MOST_THREADS:
        return False
    return all([is_below(begin, procedures) for begin in value])


def with_threads(program, threads):
    """The program with these threads in the place of its own."""
    check_program(program)
    return Program(program.locks, program.cells, program.modes, program.bodies(), threads)


def check_program(program):
    """Raise InvalidProgram unless it is a Program."""
    if not isinstance(program, Program):
        raise InvalidProgram(program)


def check_thread(program, thread):
    """Raise InvalidThread unless it is a thread of the program."""
    if not is_below(thread, len(program.threads())):
        raise InvalidThread(thread)
