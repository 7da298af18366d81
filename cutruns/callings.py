"""Which procedures call which ones, and which places are dead."""

from cutruns.flows import Flow
from cutruns.programs import check_program, check_thread
from cutruns.statements import calls_in


def calls_of(program):
    """The list of the rising lists of the procedures that each procedure calls."""
    check_program(program)
    shape = program.shape()
    return [calls_in(shape, body) for body in program.bodies()]


def is_recursive(program):
    """Whether a procedure to which some thread comes calls one that comes to it."""
    calls = calls_of(program)
    for begin in program.threads():
        for procedure in _come_to(calls, begin):
            if any([procedure in _come_to(calls, called) for called in calls[procedure]]):
                return True
    return False


def reached(program, thread):
    """The rising list of the procedures to which the thread comes."""
    check_program(program)
    check_thread(program, thread)
    return _come_to(calls_of(program), program.threads()[thread])


def _come_to(calls, procedure):
    """The rising list of the procedures to which the procedure comes, itself among them."""
    found = []
    left = [procedure]
    while len(left) > 0:
        one = left.pop()
        if one not in found:
            found.append(one)
            left.extend(calls[one])
    return sorted(found)


def deepest(program):
    """How many procedures there are in the longest row of calls; None if the program is recursive."""
    if is_recursive(program):
        return None
    calls = calls_of(program)
    return max([_longest_from(calls, begin) for begin in program.threads()])


def _longest_from(calls, procedure):
    return 1 + max([_longest_from(calls, called) for called in calls[procedure]], default=0)


def dead_places(program):
    """The rising list of the dead places of the program's flow."""
    flow = Flow(program)
    alive = {flow.begin_of(begin): True for begin in program.threads()}
    many = 0
    # An end that becomes alive wakes places behind calls that were looked at already.
    while many < len(alive):
        many = len(alive)
        for near, kind, what, far in flow.moves():
            if near in alive:
                for place in _places_behind(flow, alive, kind, what, far):
                    alive[place] = True
    return [place for place in range(flow.places) if place not in alive]


def _places_behind(flow, alive, kind, what, far):
    """The places that are alive as the place is from which such a move goes."""
    if kind != "call":
        return [far]
    if flow.end_of(what) in alive:
        return [flow.begin_of(what), far]
    return [flow.begin_of(what)]
