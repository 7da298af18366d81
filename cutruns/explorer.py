"""All schedules whose stacks keep within a depth."""

from cutruns.basics import is_count
from cutruns.errors import InvalidDeep, TooMany
from cutruns.machine import Machine
from cutruns.moments import check_goal

MOST_STATES = 3000
MOST_DEEP = 6


def states_of(program, deep):
    """The sorted list of all states that are reached within the depth."""
    machine = Machine(program)
    _check_deep(deep)
    return _sorted_states(_reached_states(machine, deep))


def stills_of(program, deep):
    """The sorted list of the reached states that stand still."""
    machine = Machine(program)
    _check_deep(deep)
    states = _sorted_states(_reached_states(machine, deep))
    return [state for state in states if machine.stands_still(state)]


def meets(state, goal):
    """Whether the state meets the goal."""
    threads, _ = state
    return all([threads[thread][1][-1] == place for thread, place in goal])


def first_schedule(program, goal, deep):
    """The first schedule to the goal, None if it isn't met within the depth."""
    machine = Machine(program)
    check_goal(machine, goal)
    _check_deep(deep)
    came = _reached_states(machine, deep)
    for state in came:
        if meets(state, goal):
            return _schedule_to(came, state)
    return None


def _check_deep(deep):
    if not is_count(deep) or not 1 <= deep <= MOST_DEEP:
        raise InvalidDeep(deep)


def _reached_states(machine, deep):
    """A dict of each reached state to the state ahead and the event of its first schedule.

    The states come in the sequence of their first schedules, shorter ones first, as a state's events
    are sorted, and the states are looked at in this very sequence.
    """
    first = machine.first()
    came = {first: None}
    states = [first]
    at = 0
    while at < len(states):
        state = states[at]
        at += 1
        for event in machine.possible(state):
            later = machine.after(state, event)
            if later not in came and len(later[0][event[0]][1]) <= deep:
                came[later] = (state, event)
                states.append(later)
        if len(states) > MOST_STATES:
            raise TooMany("states", MOST_STATES)
    return came


def _sorted_states(came):
    # Of reached states with the same threads the owners are the same, too.
    found = {threads: owners for threads, owners in came}
    return [(threads, found[threads]) for threads in sorted(list(found))]


def _schedule_to(came, state):
    schedule = []
    while came[state] is not None:
        state, event = came[state]
        schedule.append(event)
    return schedule[::-1]
