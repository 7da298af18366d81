"""A thread that goes alone, number by number."""

from cutruns.basics import is_count, is_list
from cutruns.machine import MOST_EVENTS, Machine
from cutruns.moments import MOST_LEGS
from cutruns.pieces import CUT, NOTHING, piece_of_move, put_behind
from cutruns.programs import with_threads


def are_runs(value):
    """Whether any value is a list of one to three lists of COUNTS, at most 400 in all."""
    if not is_list(value) or not 1 <= len(value) <= MOST_LEGS:
        return False
    if not all([is_list(leg) and all([is_count(number) for number in leg]) for leg in value]):
        return False
    return sum([len(leg) for leg in value]) <= MOST_EVENTS


class Walk:
    """A thread, all locks being free ahead of it, from the begin of a procedure on."""

    def __init__(self, program, procedure, mode):
        self.machine = Machine(with_threads(program, [procedure]))
        threads, owners = self.machine.first()
        _, stack = threads[0]
        self.state = ((mode, stack),), owners
        self.piece = NOTHING

    def step(self, number):
        """Do what has the number: whether this could be done."""
        machine = self.machine
        if not machine.is_possible(self.state, (0, number)):
            return False
        if number < machine.back:
            _, kind, what, _ = machine.steps[number]
            self.piece = put_behind(self.piece, piece_of_move(kind, what))
        self.state = machine.after(self.state, (0, number))
        return True

    def step_leg(self, wishes, leg, numbers):
        """Do the numbers of a leg of a row: whether all of them could be done and none is banned."""
        for number in numbers:
            if wishes.is_banned(leg, number) or not self.step(number):
                return False
        return True

    def may_cut(self, wishes, leg, numbers):
        """Whether the row's leg may end here, these being its numbers."""
        mode, stack = self.mode_and_stack()
        if wishes.lets_cut(leg, stack[-1], mode):
            return True
        return len(numbers) > 0 and wishes.wants_behind(leg, numbers[-1])

    def make_cut(self):
        """Cut the run here."""
        self.piece = put_behind(self.piece, CUT)

    def mode_and_stack(self):
        """The mode of the thread, and its stack."""
        return self.state[0][0]

    def has_ended(self):
        """Whether the thread stands at the procedure's end with no further frame."""
        return self.machine.is_ended(self.state, 0)

    def locks_held(self):
        """The list of the locks that the thread holds, the outermost first."""
        return self.machine.row(self.mode_and_stack()[1])


def walked(program, thread, runs):
    """The walk of the thread, cut behind each leg, and the position of the first number that can't be done, or None."""
    walk = Walk(program, program.threads()[thread], 0)
    position = 0
    for leg in runs:
        for number in leg:
            if not walk.step(number):
                return walk, position
            position += 1
        walk.make_cut()
    return walk, None
