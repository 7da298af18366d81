"""Moves that can come ahead of others, and pairs of moves that others can tear apart."""

from cutruns.accesses import TOUCHING
from cutruns.basics import is_below, is_tuple_of
from cutruns.callings import reached
from cutruns.errors import InvalidCell, InvalidMove, InvalidThread, InvalidTorn, TooMany
from cutruns.machine import Machine
from cutruns.meetings import can_meet, meeting
from cutruns.programs import check_thread

MOST_PULLS = 60


def can_be_ahead(program, thread, move, other, far):
    """Whether the thread's move can be done ahead of the other thread's far one."""
    return can_meet(program, _ahead_row(program, thread, move, other, far))


def ahead_legs(program, thread, move, other, far):
    """The legs of a shortest list of schedules that do both moves so, None if there is none."""
    return meeting(program, _ahead_row(program, thread, move, other, far))


def _ahead_row(program, thread, move, other, far):
    machine = Machine(program)
    check_thread(program, thread)
    _check_move(machine, move)
    check_thread(program, other)
    if other == thread:
        raise InvalidThread(other)
    _check_move(machine, far)
    return [_behind(thread, move, ()), _behind(other, far, ())]


def _check_move(machine, move):
    if not is_below(move, machine.back + 1):
        raise InvalidMove(move)


def _behind(thread, number, bans):
    """The leg at whose end the thread has just done the number."""
    return ((thread, "behind", number),), bans


def torn_row(program, torn):
    """The row of the torn pair."""
    if not _is_like_torn(Machine(program), torn):
        raise InvalidTorn(torn)
    return _row_of(torn)


def _row_of(torn):
    thread, first, last, other, between, ban = torn
    bans = () if ban is None else ((thread, ban),)
    return [_behind(thread, first, ()), _behind(other, between, bans), _behind(thread, last, bans)]


def _is_like_torn(machine, value):
    """Whether the value is a torn pair, whether it comes or not."""
    if not is_tuple_of(value, 6):
        return False
    thread, first, last, other, between, ban = value
    many = len(machine.homes)
    if not is_below(thread, many) or not is_below(other, many) or thread == other:
        return False
    numbers = [first, last, between] if ban is None else [first, last, between, ban]
    return all([is_below(number, machine.back + 1) for number in numbers])


def is_torn(program, value):
    """Whether any value is a torn pair of the program that comes."""
    return _is_like_torn(Machine(program), value) and can_meet(program, _row_of(value))


def torn_legs(program, torn):
    """The legs of a shortest list of schedules by which the torn pair comes, None if it doesn't."""
    return meeting(program, torn_row(program, torn))


def pulls(program, cell):
    """The sorted list of all pulls of the cell."""
    machine = Machine(program)
    if not is_below(cell, program.cells):
        raise InvalidCell(cell)
    moves = [Touch(machine, number) for number in _touching(machine, cell)]
    # Of each thread the moves to whose procedures it can come.
    own = [_coming_to(moves, reached(program, thread)) for thread in range(len(machine.homes))]
    found = []
    for thread, there in enumerate(own):
        for first, last in _pairs_of_one_block(there):
            for other, far in enumerate(own):
                if other != thread:
                    found.extend(_pulls_of(thread, first, last, other, far))
    return sorted(found)


def _touching(machine, cell):
    return [number for number, move in enumerate(machine.steps) if move[1] in TOUCHING and move[2] == cell]


class Touch:
    """A move that touches or writes a cell, with the block in which it stands."""

    def __init__(self, machine, number):
        near, kind, _, _ = machine.steps[number]
        self.number = number
        self.writes = kind == "write"
        self.procedure = machine.flow.procedure_of(near)
        # What ends the block: the give of a hold, or BACK.
        give = machine.flow.give_around(near)
        self.ban = machine.back if give is None else give
        self.block = (self.procedure, self.ban)


def _coming_to(moves, procedures):
    return [move for move in moves if move.procedure in procedures]


def _pairs_of_one_block(moves):
    return [(first, last) for first in moves for last in moves if first.block == last.block]


def _pulls_of(thread, first, last, other, moves):
    """The pulls of the first and the last move of the thread by one of these moves of the other thread."""
    found = []
    for between in moves:
        if between.writes or (first.writes and last.writes):
            found.append((thread, first.number, last.number, other, between.number, first.ban))
    return found


def torn_pairs(program, cell):
    """The sorted list of the pulls of the cell that come."""
    found = pulls(program, cell)
    if len(found) > MOST_PULLS:
        raise TooMany("pulls", MOST_PULLS)
    return [torn for torn in found if can_meet(program, _row_of(torn))]
