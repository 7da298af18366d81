"""Weaving runs of unlike threads into schedules, and taking schedules apart into runs."""

from cutruns.basics import is_below, is_list, is_tuple_of
from cutruns.errors import InvalidRuns, InvalidSchedule, NotAgreeing, TooMany
from cutruns.machine import MOST_EVENTS, Machine, is_schedule, replayed
from cutruns.moments import MOST_LEGS
from cutruns.orders import order_of
from cutruns.pieces import parts_in_legs
from cutruns.programs import MOST_THREADS
from cutruns.walks import are_runs, walked
from cutruns.words import walk_behind, word_of


def pieces_of(program, thread, runs):
    """The list of the pieces of all parts of the word of the cut run."""
    walk = walk_behind(program, thread, runs)
    pieces = []
    for numbers, edges in zip(runs, _edges_in(walk.machine.steps, runs)):
        bounds = [0, *edges, len(numbers)]
        pieces.extend([list(numbers[near:far]) for near, far in zip(bounds, bounds[1:])])
    return [*pieces, []]


def _edges_in(steps, runs):
    """Of each leg the rising list of where the takes for good and the late gives stand in it."""
    edges = []
    # Of each lock that is held the leg in which it was taken, and where there.
    held = []
    for leg, numbers in enumerate(runs):
        late = []
        for at, number in enumerate(numbers):
            kind = steps[number][1] if number < len(steps) else None
            if kind == "take":
                held.append((leg, at))
            elif kind == "give" and held.pop()[0] != leg:
                late.append(at)
        edges.append(late + [where for taken, where in held if taken == leg])
    return edges


def _check_runs(program, runs):
    machine = Machine(program)
    if not _are_runs_of_threads(program, len(machine.homes), runs):
        raise InvalidRuns(runs)


def _are_runs_of_threads(program, threads, value):
    if not is_list(value) or not 1 <= len(value) <= MOST_THREADS:
        return False
    if not all([is_tuple_of(one, 2) and is_below(one[0], threads) and are_runs(one[1]) for one in value]):
        return False
    if len({thread for thread, _ in value}) < len(value):
        return False
    if not all([len(run) == len(value[0][1]) for _, run in value]):
        return False
    return all([walked(program, thread, run)[1] is None for thread, run in value])


def _many_moves(runs):
    return sum([len(leg) for _, run in runs for leg in run])


def woven(program, runs):
    """A list of schedules by which the runs are woven."""
    _check_runs(program, runs)
    words = [word_of(program, thread, run) for thread, run in runs]
    order = order_of(words)
    if order is None:
        raise NotAgreeing()
    if _many_moves(runs) > MOST_EVENTS:
        raise TooMany("events", MOST_EVENTS)
    strands = [Strand(thread, word, pieces_of(program, thread, run)) for word, (thread, run) in zip(words, runs)]
    return [_woven_leg(strands, leg, nodes) for leg, nodes in enumerate(order)]


class Strand:
    """A run that is woven: its thread, its word, and the pieces of the parts of this."""

    def __init__(self, thread, word, pieces):
        self.thread = thread
        self.parts = word
        self.pieces = pieces

    def freely(self, leg):
        """The events of the leg's first part, which has no edge, if it uses nothing."""
        at, (_, _, used) = parts_in_legs(self.parts)[leg][0]
        return self._events(self.pieces[at]) if len(used) == 0 else []

    def at_node(self, at, side):
        """The events of the part's edge, or of its use."""
        edge, _, used = self.parts[at]
        piece = self.pieces[at]
        # The rest of an edge's piece goes with the edge where nothing is used in it.
        alone = 1 if edge in ("take", "give") else 0
        if side == 1:
            return self._events(piece[alone:])
        return self._events(piece if len(used) == 0 else piece[:alone])

    def _events(self, numbers):
        return [(self.thread, number) for number in numbers]


def _woven_leg(strands, leg, nodes):
    schedule = []
    for strand in strands:
        schedule.extend(strand.freely(leg))
    for position, part, side in nodes:
        schedule.extend(strands[position].at_node(part, side))
    return schedule


def is_woven(program, runs, value):
    """Whether any value is a list of schedules by which the runs are woven."""
    _check_runs(program, runs)
    if not is_list(value) or not all([is_list(schedule) for schedule in value]):
        return False
    joined = [event for schedule in value for event in schedule]
    if len(joined) != _many_moves(runs) or not is_schedule(program, joined):
        return False
    # No event of another thread is left where the moves of the runs are all that is there.
    return all([_legs_of_thread(value, thread) == [list(leg) for leg in run] for thread, run in runs])


def _legs_of_thread(legs, thread):
    """The cut run of the thread in a list of schedules."""
    return [[number for one, number in leg if one == thread] for leg in legs]


def apart(program, legs):
    """The list of the tuples (thread, cut run) of all threads, into which the list of schedules comes apart."""
    machine = Machine(program)
    if not is_list(legs) or not 1 <= len(legs) <= MOST_LEGS or not all([is_list(leg) for leg in legs]):
        raise InvalidSchedule(None)
    replayed(program, [event for leg in legs for event in leg])
    return [(thread, _legs_of_thread(legs, thread)) for thread in range(len(machine.homes))]
