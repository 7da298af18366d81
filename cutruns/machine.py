"""The plain machine: states, events, schedules."""

from cutruns.basics import is_below, is_count, is_list, is_tuple_of
from cutruns.errors import InvalidEvent, InvalidSchedule, InvalidState
from cutruns.flows import Flow
from cutruns.programs import check_thread

MOST_EVENTS = 400


class Machine:
    """The plain machine of a program, which never changes."""

    def __init__(self, program):
        self.flow = Flow(program)
        self.homes = program.threads()
        self.many_locks = program.locks
        self.many_modes = program.modes
        self.steps = self.flow.moves()
        self.back = self.flow.many_moves
        self.ends = [self.flow.end_of(procedure) for procedure in range(len(program.bodies()))]
        self.leaving = [self.flow.moves_from(place) for place in range(self.flow.places)]
        # The places to which calls go on, each with the procedure that is called.
        self.returns = {(far, what): True for _, kind, what, far in self.steps if kind == "call"}

    def first(self):
        """The first state."""
        threads = tuple([(0, (self.flow.begin_of(home),)) for home in self.homes])
        return threads, (None,) * self.many_locks

    def is_state(self, value):
        """Whether any value is a state of the program."""
        if not is_tuple_of(value, 2) or not is_tuple_of(value[0], len(self.homes)):
            return False
        if not all([self._is_thread(home, one) for home, one in zip(self.homes, value[0])]):
            return False
        rows = [self.row(stack) for _, stack in value[0]]
        return is_tuple_of(value[1], self.many_locks) and _are_owners(value[1], rows)

    def _is_thread(self, home, value):
        if not is_tuple_of(value, 2) or not is_below(value[0], self.many_modes):
            return False
        stack = value[1]
        if not isinstance(stack, tuple) or not all([is_below(place, self.flow.places) for place in stack]):
            return False
        if len(stack) == 0 or self.flow.procedure_of(stack[0]) != home:
            return False
        return all([self._may_follow(ahead, place) for ahead, place in zip(stack, stack[1:])])

    def _may_follow(self, ahead, place):
        return (ahead, self.flow.procedure_of(place)) in self.returns

    def check_state(self, state):
        """Raise InvalidState unless it is a state of the program."""
        if not self.is_state(state):
            raise InvalidState(state)

    def row(self, stack):
        """The list of the locks that a thread with such a stack holds, in their row."""
        locks = []
        for place in stack:
            locks.extend(self.flow.locks_around(place))
        return locks

    def possible(self, state):
        """The sorted list of the events that can be done in the state."""
        threads, owners = state
        found = []
        for thread, (mode, stack) in enumerate(threads):
            for number in self.leaving[stack[-1]]:
                if _lets(self.steps[number], mode, owners):
                    found.append((thread, number))
            if len(stack) > 1 and stack[-1] in self.ends:
                found.append((thread, self.back))
        return found

    def is_possible(self, state, value):
        """Whether any value is an event that can be done in the state."""
        if not is_tuple_of(value, 2) or not is_count(value[0]) or not is_count(value[1]):
            return False
        return value in self.possible(state)

    def after(self, state, event):
        """The state behind an event that can be done."""
        threads, owners = state
        thread, number = event
        mode, stack = threads[thread]
        stack = stack[:-1]
        if number < self.back:
            _, kind, what, far = self.steps[number]
            stack = (*stack, far)
            if kind == "call":
                stack = (*stack, self.flow.begin_of(what))
            elif kind == "set":
                mode = what
            elif kind == "take":
                owners = _with_item(owners, what, thread)
            elif kind == "give":
                owners = _with_item(owners, what, None)
        return _with_item(threads, thread, (mode, stack)), owners

    def replay(self, schedule):
        """The state behind the events of a list, and the first position where none stands that can be done."""
        state = self.first()
        for at, event in enumerate(schedule):
            if not self.is_possible(state, event):
                return state, at
            state = self.after(state, event)
        return state, None

    def is_ended(self, state, thread):
        """Whether the thread has ended."""
        return state[0][thread][1] == (self.ends[self.homes[thread]],)

    def stands_still(self, state):
        """Whether no event can be done and some thread hasn't ended."""
        if len(self.possible(state)) > 0:
            return False
        return not all([self.is_ended(state, thread) for thread in range(len(self.homes))])


def _are_owners(owners, rows):
    """Whether each lock has the owner that the rows of the threads tell, and stands in one of them at most."""
    told = {}
    for thread, row in enumerate(rows):
        for lock in row:
            if lock in told:
                return False
            told[lock] = thread
    return all([_is_owner(owner, told.get(lock)) for lock, owner in enumerate(owners)])


def _is_owner(value, thread):
    if thread is None:
        return value is None
    return is_count(value) and value == thread


def _lets(move, mode, owners):
    _, kind, what, _ = move
    if kind == "take":
        return owners[what] is None
    return mode_lets(kind, what, mode)


def mode_lets(kind, what, mode):
    """Whether the mode lets a move of this kind."""
    if kind == "is":
        return mode == what
    if kind == "not":
        return mode != what
    return True


def _with_item(row, at, item):
    return (*row[:at], item, *row[at + 1:])


def _is_short_list(value):
    return is_list(value) and len(value) <= MOST_EVENTS


def begin_state(program):
    """The first state."""
    return Machine(program).first()


def is_state(program, value):
    """Whether any value is a state of the program."""
    return Machine(program).is_state(value)


def events(program, state):
    """The sorted list of the events that can be done."""
    machine = Machine(program)
    machine.check_state(state)
    return machine.possible(state)


def done(program, state, event):
    """The state behind the event."""
    machine = Machine(program)
    machine.check_state(state)
    if not machine.is_possible(state, event):
        raise InvalidEvent(event)
    return machine.after(state, event)


def replayed(program, schedule):
    """The state behind the schedule."""
    machine = Machine(program)
    if not _is_short_list(schedule):
        raise InvalidSchedule(None)
    state, wrong = machine.replay(schedule)
    if wrong is not None:
        raise InvalidSchedule(wrong)
    return state


def is_schedule(program, value):
    """Whether any value is a schedule that can be replayed."""
    machine = Machine(program)
    return _is_short_list(value) and machine.replay(value)[1] is None


def has_ended(program, state, thread):
    """Whether the thread has ended."""
    return _machine_at(program, state, thread).is_ended(state, thread)


def stands_at(program, state, thread):
    """The place where the thread stands."""
    _machine_at(program, state, thread)
    return state[0][thread][1][-1]


def row_of(program, state, thread):
    """The row of locks of the thread, a list."""
    return _machine_at(program, state, thread).row(state[0][thread][1])


def _machine_at(program, state, thread):
    """The machine of the program, behind the checks of all three."""
    machine = Machine(program)
    machine.check_state(state)
    check_thread(program, thread)
    return machine


def is_still(program, state):
    """Whether the state stands still."""
    machine = Machine(program)
    machine.check_state(state)
    return machine.stands_still(state)


def blocks_at(program, place):
    """The list of the locks of the holds within which the place lies, outermost first."""
    return Flow(program).locks_around(place)
