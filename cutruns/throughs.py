"""How threads go through procedures."""

from cutruns.basics import is_below, is_tuple_of
from cutruns.errors import InvalidThrough, NoThrough, TooMany
from cutruns.machine import MOST_EVENTS
from cutruns.moments import Wishes
from cutruns.pieces import cuts_in, is_piece
from cutruns.rows import check_thread_and_row
from cutruns.searches import Search
from cutruns.walks import Walk, are_runs
from cutruns.words import is_of_locks


def throughs(program, thread, row):
    """The sorted list of the throughs."""
    check_thread_and_row(program, thread, row)
    return sorted(list(_throughs_of(Search(program, thread, row))))


def _throughs_of(search):
    """A dict of each through to its stand."""
    stands = [stand for found in search.through.values() for stand in found]
    return {_through_of(search, stand): stand for stand in stands}


def _through_of(search, stand):
    (procedure, phase, mode), late, _, later, _ = stand
    return procedure, phase, mode, late, later, search.piece_of(stand)


def length_through(program, thread, row, through):
    """The length of the through."""
    search, stand = _found(program, thread, row, through)
    return search.least[stand]


def run_through(program, thread, row, through):
    """A shortest list of lists of moves that goes so."""
    search, stand = _found(program, thread, row, through)
    if search.least[stand] > MOST_EVENTS:
        raise TooMany("moves", MOST_EVENTS)
    return search.legs_to(stand)


def _found(program, thread, row, through):
    """The search, and the stand of the through in it."""
    _check_through(program, thread, row, through)
    search = Search(program, thread, row)
    stand = _throughs_of(search).get(through)
    if stand is None:
        raise NoThrough()
    return search, stand


def _check_through(program, thread, row, through):
    check_thread_and_row(program, thread, row)
    if not _is_like_through(program, len(row), through):
        raise InvalidThrough(through)


def _is_like_through(program, legs, value):
    if not is_tuple_of(value, 6):
        return False
    procedure, phase, mode, late, later, piece = value
    if not is_below(procedure, len(program.bodies())) or not is_below(late, legs) or not is_below(phase, late + 1):
        return False
    if not is_below(mode, program.modes) or not is_below(later, program.modes):
        return False
    return is_piece(piece) and is_of_locks(program, piece) and cuts_in(piece) == late - phase


def is_run_through(program, thread, row, through, value):
    """Whether any value is a list of lists of moves that goes so, whatever its length."""
    _check_through(program, thread, row, through)
    procedure, phase, mode, late, later, piece = through
    if not are_runs(value) or len(value) != late - phase + 1:
        return False
    wishes = Wishes(row, thread)
    walk = Walk(program, procedure, mode)
    for at, numbers in enumerate(value):
        if at > 0:
            walk.make_cut()
        if not walk.step_leg(wishes, phase + at, numbers):
            return False
        if phase + at < late and not walk.may_cut(wishes, phase + at, numbers):
            return False
    return walk.has_ended() and walk.mode_and_stack()[0] == later and walk.piece == piece
