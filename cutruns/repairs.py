"""Programs with holds put around statements, taken away, or exchanged, and which of them have neither race nor ring."""

from cutruns.basics import is_below, is_count, is_list, is_tuple_of
from cutruns.errors import (
    InvalidLock,
    InvalidMost,
    InvalidProcedure,
    InvalidWraps,
    NotHold,
    NotNested,
    TooDeep,
    TooMany,
)
from cutruns.programs import MOST_STATEMENTS, Program, check_program
from cutruns.races import has_race
from cutruns.statements import at_path, found_at, is_body, is_path, paths_of, replaced, size_of
from cutruns.stills import ring_schedule

MOST_WRAPS = 2
MOST_TRIES = 300


def wrapped(program, procedure, path, lock):
    """The program with the statement at the path of the procedure held by the lock."""
    statement = _statement_at(program, procedure, path)
    if not is_below(lock, program.locks):
        raise InvalidLock(lock)
    made = _with_part(program, procedure, path, (("hold", lock, (statement,)),))
    if not is_body(program.shape(), made[procedure]):
        raise TooDeep()
    return _with_bodies(program, made)


def unwrapped(program, procedure, path):
    """The program with the statements of the hold at the path of the procedure in its place."""
    statement = _statement_at(program, procedure, path)
    if statement[0] != "hold":
        raise NotHold()
    return _with_bodies(program, _with_part(program, procedure, path, statement[2]))


def exchanged(program, procedure, path):
    """The program with the locks of the hold at the path of the procedure, and of the one within it, exchanged."""
    statement = _statement_at(program, procedure, path)
    if statement[0] != "hold" or len(statement[2]) != 1 or statement[2][0][0] != "hold":
        raise NotNested()
    lock, within = statement[1], statement[2][0]
    part = (("hold", within[1], (("hold", lock, within[2]),)),)
    return _with_bodies(program, _with_part(program, procedure, path, part))


def _statement_at(program, procedure, path):
    """The statement, behind the checks of all three."""
    check_program(program)
    if not is_below(procedure, len(program.bodies())):
        raise InvalidProcedure(procedure)
    return at_path(program.shape(), program.bodies()[procedure], path)


def _with_part(program, procedure, path, part):
    """The list of the bodies with the part in the place of the statement."""
    bodies = program.bodies()
    bodies[procedure] = replaced(bodies[procedure], path, part)
    return bodies


def _with_bodies(program, bodies):
    return Program(program.locks, program.cells, program.modes, bodies, program.threads())


def repaired(program, wraps):
    """The program with the repair done."""
    check_program(program)
    made = _bodies_with(program, wraps) if _are_wraps(program, wraps) else None
    if made is None:
        raise InvalidWraps(wraps)
    return _with_bodies(program, made)


def _are_wraps(program, value):
    """Whether the value is a rising list of wraps, no two of one statement."""
    if not is_list(value) or not all([_is_wrap(program, wrap) for wrap in value]):
        return False
    return all([one < other and one[:2] != other[:2] for one, other in zip(value, value[1:])])


def _is_wrap(program, value):
    if not is_tuple_of(value, 3):
        return False
    procedure, path, lock = value
    if not is_below(procedure, len(program.bodies())) or not is_below(lock, program.locks):
        return False
    return isinstance(path, tuple) and is_path(path) and found_at(program.bodies()[procedure], path) is not None


def _bodies_with(program, wraps):
    """The list of the bodies with the wraps done, None if they make no program."""
    bodies = program.bodies()
    # A wrapped statement has another path for those within it, so these come first.
    for procedure, path, lock in wraps[::-1]:
        statement = found_at(bodies[procedure], path)
        bodies[procedure] = replaced(bodies[procedure], path, (("hold", lock, (statement,)),))
    shape = program.shape()
    if not all([is_body(shape, body) for body in bodies]):
        return None
    return bodies if sum([size_of(shape, body) for body in bodies]) <= MOST_STATEMENTS else None


def is_helping(program, wraps):
    """Whether the repaired program has no race and no ring."""
    return _is_sound(repaired(program, wraps))


def _is_sound(program):
    """Whether the program has no race and no ring."""
    races = has_race(program)
    # That the rings can't be told is told of programs with races, too.
    rings = ring_schedule(program) is not None
    return not races and not rings


def raceless(program, most):
    """The sorted list of all repairs of at most so many wraps that help with the fewest wraps."""
    check_program(program)
    if not is_count(most) or most > MOST_WRAPS:
        raise InvalidMost(most)
    tries = _tries(program, most)
    for many in range(most + 1):
        found = [wraps for wraps in tries if len(wraps) == many and _is_sound_with(program, wraps)]
        if len(found) > 0:
            return sorted(found)
    return []


def _is_sound_with(program, wraps):
    made = _bodies_with(program, wraps)
    return made is not None and _is_sound(_with_bodies(program, made))


def _tries(program, most):
    """The list of all rising lists of at most so many wraps, no two of one statement."""
    shape = program.shape()
    statements = []
    for procedure, body in enumerate(program.bodies()):
        statements.extend([(procedure, tuple(path)) for path in paths_of(shape, body)])
    tries = [[]]
    longest = [[]]
    for _ in range(most):
        longer = []
        for wraps in longest:
            later = [one for one in statements if len(wraps) == 0 or one > wraps[-1][:2]]
            longer.extend([[*wraps, (*one, lock)] for one in later for lock in range(program.locks)])
        tries.extend(longer)
        longest = longer
    if len(tries) > MOST_TRIES:
        raise TooMany("tries", MOST_TRIES)
    return tries
