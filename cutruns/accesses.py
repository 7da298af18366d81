"""Which cells places touch and which modes they claim, and what may race or be broken by it."""

from cutruns.basics import is_below, is_count, is_tuple_of
from cutruns.machine import Machine

TOUCHING = ("touch", "write")


def touches(program, place):
    """The sorted list of the tuples (cell, whether the place writes it) for each cell that the place touches."""
    written = touched_at(_machine_with(program, place), place)
    return sorted([(cell, written[cell]) for cell in written])


def claims_at(program, place):
    """The rising list of the modes that the place claims."""
    return claimed_at(_machine_with(program, place), place)


def _machine_with(program, place):
    machine = Machine(program)
    # The flow tells whether it is one of its places.
    machine.flow.moves_from(place)
    return machine


def touched_at(machine, place):
    """A dict of each cell that the place touches to whether the place writes it."""
    written = {}
    for number in machine.leaving[place]:
        _, kind, what, _ = machine.steps[number]
        if kind in TOUCHING:
            written[what] = written.get(what, False) or kind == "write"
    return written


def claimed_at(machine, place):
    """The rising list of the modes that the place claims."""
    steps = [machine.steps[number] for number in machine.leaving[place]]
    return sorted({what for _, kind, what, _ in steps if kind == "claim"})


def may_race(near, far, cell):
    """Whether both places, told by what they touch, touch the cell and one of them writes it."""
    return cell in near and cell in far and (near[cell] or far[cell])


def is_like_race(machine, value):
    """Whether the value is a race, but for the schedule to it."""
    if not is_tuple_of(value, 5) or not all([is_count(part) for part in value]):
        return False
    thread, place, other, far, cell = value
    if not is_below(other, len(machine.homes)) or thread >= other:
        return False
    if not is_below(place, machine.flow.places) or not is_below(far, machine.flow.places):
        return False
    return may_race(touched_at(machine, place), touched_at(machine, far), cell)


def race_goal(race):
    """The goal of both threads of the race."""
    thread, place, other, far, _ = race
    return [(thread, place), (other, far)]


def is_like_broken(machine, value):
    """Whether a claim is broken by the value, but for the schedule to where it is."""
    if not is_tuple_of(value, 3):
        return False
    thread, place, mode = value
    if not is_below(thread, len(machine.homes)) or not is_below(place, machine.flow.places):
        return False
    return is_below(mode, machine.many_modes) and breaks_claim(machine, place, mode)


def breaks_claim(machine, place, mode):
    """Whether the place claims another mode."""
    return any([claimed != mode for claimed in claimed_at(machine, place)])


def broken_row(broken):
    """The row of one leg that is met where the claim is broken so."""
    thread, place, mode = broken
    return [(((thread, "in", (place, mode)),), ())]
