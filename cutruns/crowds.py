"""Crowds: programs with copies of threads, and the rings and meetings that come in them."""

from cutruns.basics import is_below, is_list, is_tuple_of
from cutruns.errors import InvalidKinds, InvalidPlaces
from cutruns.machine import Machine
from cutruns.meetings import meeting
from cutruns.programs import MOST_THREADS, check_program, with_threads
from cutruns.rows import one_goal
from cutruns.stills import leads_to_ring
from cutruns.waits import least_ring, waiters_of, waiting_schedule


def _are_kinds(program, value):
    if not is_list(value) or not 1 <= len(value) <= MOST_THREADS:
        return False
    return all([is_below(kind, len(program.threads())) for kind in value])


def crowd_of(program, kinds):
    """The program with a copy of its kind for each thread."""
    check_program(program)
    if not _are_kinds(program, kinds):
        raise InvalidKinds(kinds)
    homes = program.threads()
    return with_threads(program, [homes[kind] for kind in kinds])


def ring_in_crowd(program):
    """The tuple (kinds, schedule, ring) of a ring with the fewest copies, None if with any copies none comes."""
    machine = Machine(program)
    waiters = waiters_of(machine, program)
    for many in range(1, machine.many_locks + 1):
        best = None
        for kinds in _kinds_in_a_ring(machine.homes, many):
            found = least_ring([waiters[kind].waits for kind in kinds], machine.many_locks)
            if found is not None and (best is None or found[0] < best[1]):
                best = (kinds, *found)
        if best is not None:
            kinds, moves, told = best
            copies = [waiters[kind] for kind in kinds]
            schedule = waiting_schedule(crowd_of(program, kinds), copies, moves, list(enumerate(told)))
            return kinds, schedule, list(range(many))
    return None


def _kinds_in_a_ring(homes, many):
    """The list of the lists of so many kinds, of threads with unlike procedures, each ring of them told once."""
    unlike = [thread for thread, home in enumerate(homes) if home not in homes[:thread]]
    found = [[]]
    for _ in range(many):
        found = [[*kinds, kind] for kinds in found for kind in unlike]
    return [kinds for kinds in found if kinds == min([kinds[at:] + kinds[:at] for at in range(many)])]


def is_crowd_ring(program, value):
    """Whether any value is a tuple (kinds, schedule, ring) whose schedule leads the crowd to a state with the ring."""
    check_program(program)
    if not is_tuple_of(value, 3) or not _are_kinds(program, value[0]):
        return False
    kinds, schedule, ring = value
    return leads_to_ring(crowd_of(program, kinds), schedule, ring)


def meet_in_crowd(program, places):
    """A shortest schedule of the crowd of the kinds to where each copy stands at its place, None if there is none."""
    machine = Machine(program)
    if not _are_places(program, machine, places):
        raise InvalidPlaces(places)
    crowd = crowd_of(program, [kind for kind, _ in places])
    legs = meeting(crowd, one_goal(crowd, [(copied, place) for copied, (_, place) in enumerate(places)]))
    return None if legs is None else legs[0]


def _are_places(program, machine, value):
    if not is_list(value) or not all([is_tuple_of(one, 2) for one in value]):
        return False
    return _are_kinds(program, [kind for kind, _ in value]) and all(
        [is_below(place, machine.flow.places) for _, place in value]
    )
