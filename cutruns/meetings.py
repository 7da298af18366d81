"""Whether rows can be met, and the shortest schedules that meet them."""

from cutruns.basics import is_list
from cutruns.choices import least_lot
from cutruns.ends import Ends
from cutruns.errors import TooMany
from cutruns.machine import MOST_EVENTS, Machine
from cutruns.moments import Wishes, check_row, threads_in
from cutruns.weaving import woven


def can_meet(program, row):
    """Whether the row can be met."""
    return _least(program, row)[1] is not None


def meeting_length(program, row):
    """The length of the row, None if it can't be met."""
    _, lot = _least(program, row)
    return None if lot is None else lot[0]


def meeting(program, row):
    """A list of schedules that meets the row, as short as can be, None if it can't be met."""
    found, lot = _least(program, row)
    if lot is None:
        return None
    moves, words = lot
    if moves > MOST_EVENTS:
        raise TooMany("events", MOST_EVENTS)
    if len(words) == 0:
        return [[] for _ in row]
    return woven(program, [(thread, ends.shortest_to(word)) for (thread, ends), word in zip(found, words)])


def _least(program, row):
    """The threads of the row with their ends, and the least lot of words that agree, None if there is none."""
    check_row(Machine(program), row)
    found = []
    for thread in threads_in(row):
        ends = Ends(program, thread, row)
        ends.find_all()
        found.append((thread, ends))
    return found, least_lot([ends.with_lengths() for _, ends in found])


def is_meeting(program, row, value):
    """Whether any value is a list of schedules that meets the row."""
    machine = Machine(program)
    check_row(machine, row)
    if not is_list(value) or len(value) != len(row) or not all([is_list(schedule) for schedule in value]):
        return False
    if sum([len(schedule) for schedule in value]) > MOST_EVENTS:
        return False
    wishes = [Wishes(row, thread) for thread in range(len(machine.homes))]
    state = machine.first()
    for leg, schedule in enumerate(value):
        state = _behind_leg(machine, wishes, leg, schedule, state)
        if state is None:
            return False
    return True


def _behind_leg(machine, wishes, leg, schedule, state):
    """The state behind the schedule of the leg, None if it isn't as the row wants it."""
    last = {}
    for event in schedule:
        if not machine.is_possible(state, event):
            return None
        thread, number = event
        if wishes[thread].is_banned(leg, number):
            return None
        state = machine.after(state, event)
        last[thread] = number
    for thread, (mode, stack) in enumerate(state[0]):
        may = wishes[thread].lets_cut(leg, stack[-1], mode)
        if not may and not wishes[thread].wants_behind(leg, last.get(thread)):
            return None
    return state
