"""Standing still and rings of waiting threads: schedules to them, and papers that none ever comes."""

from cutruns.basics import is_below, is_list, is_tuple_of
from cutruns.judges import is_closed
from cutruns.machine import Machine, is_schedule, replayed
from cutruns.pieces import LAST
from cutruns.tables import least_table
from cutruns.waits import Waits, least_ring_of, least_still, lock_wanted, waiters_of, waiting_schedule


def waits_for(program, place):
    """The list of the lock for which the place waits, None if it waits for none."""
    machine = Machine(program)
    # The flow tells whether it is one of its places.
    machine.flow.moves_from(place)
    lock = lock_wanted(machine, place)
    return None if lock is None else [lock]


def waiting(program, state):
    """The sorted list of the tuples (thread, lock) of all threads that wait."""
    machine = Machine(program)
    machine.check_state(state)
    wanted = _wanted_in(machine, state)
    return [(thread, wanted[thread]) for thread in wanted]


def _wanted_in(machine, state):
    """A dict of each thread that waits to the lock for which it does."""
    threads, owners = state
    wanted = {}
    for thread, (_, stack) in enumerate(threads):
        lock = lock_wanted(machine, stack[-1])
        if lock is not None and owners[lock] is not None:
            wanted[thread] = lock
    return wanted


def still_schedule(program):
    """A shortest schedule to a state that stands still, None if none ever does."""
    waiters, choice = _still_of(program)
    if choice is None:
        return None
    moves, told = choice
    return waiting_schedule(program, waiters, moves, list(enumerate(told)))


def _still_of(program):
    waiters = waiters_of(Machine(program), program)
    return waiters, least_still([one.waits for one in waiters])


def ring_schedule(program):
    """The tuple of a shortest schedule to a state with a ring, and this; None if none ever comes."""
    waiters, found = _ring_of(program)
    if found is None:
        return None
    moves, ring, told = found
    return waiting_schedule(program, waiters, moves, list(zip(ring, told))), ring


def _ring_of(program):
    waiters = waiters_of(Machine(program), program)
    return waiters, least_ring_of([one.waits for one in waiters], program.locks)


def is_ring(program, state, value):
    """Whether any value is a ring of the state."""
    machine = Machine(program)
    machine.check_state(state)
    if not is_list(value) or not all([is_below(thread, len(machine.homes)) for thread in value]):
        return False
    if len(value) == 0 or len(set(value)) < len(value):
        return False
    wanted = _wanted_in(machine, state)
    owners = state[1]
    # The last one waits for a lock of the first one.
    follows = [*value[1:], value[0]]
    return all([thread in wanted and owners[wanted[thread]] == later for thread, later in zip(value, follows)])


def leads_to_ring(program, schedule, ring):
    """Whether the values are a schedule and a ring of the state to which it leads."""
    return is_schedule(program, schedule) and is_ring(program, replayed(program, schedule), ring)


def row_of_all(machine):
    """The row of one leg in which each thread stands where it begins."""
    begins = [machine.flow.begin_of(home) for home in machine.homes]
    return [(tuple([(thread, "at", begin) for thread, begin in enumerate(begins)]), ())]


def moving_paper(program):
    """The least table for the row of all, None if some state stands still."""
    _, choice = _still_of(program)
    return _table_unless(program, choice)


def ringless_paper(program):
    """The least table for the row of all, None if some state has a ring."""
    _, found = _ring_of(program)
    return _table_unless(program, found)


def _table_unless(program, found):
    table = least_table(program, row_of_all(Machine(program)))
    return table if found is None else None


def is_moving_paper(program, value):
    """Whether any value is a closed table for the row of all that shows that no state ever stands still."""
    machine = Machine(program)
    return is_closed(program, row_of_all(machine), value) and least_still(_waits_in(machine, value)) is None


def is_ringless_paper(program, value):
    """Whether any value is a closed table for the row of all that shows that no state ever has a ring."""
    machine = Machine(program)
    if not is_closed(program, row_of_all(machine), value):
        return False
    return least_ring_of(_waits_in(machine, value), machine.many_locks) is None


def _waits_in(machine, table):
    """The list of the waits of all threads, as the table tells them."""
    return [_waits_of(machine, *one) for one in table]


def _waits_of(machine, thread, withins, standings):
    told = {}
    for phase, place, _, word in standings:
        wanted = lock_wanted(machine, place)
        whole = (*word, LAST)
        if phase == 0 and wanted is not None:
            told[wanted, whole] = True
    home = machine.homes[thread]
    ending = (home, 0, 0, machine.ends[home], 0)
    ends = any([within[:5] == ending for within in withins])
    return Waits([(wanted, 0, word) for wanted, word in told], 0 if ends else None)
