"""Rows of moments, and the cut runs that fit them."""

from cutruns.machine import Machine
from cutruns.moments import Wishes, check_goal, check_row, is_row, threads_in
from cutruns.programs import check_thread
from cutruns.walks import Walk, are_runs


def is_moments(program, value):
    """Whether any value is a row of the program."""
    return is_row(Machine(program), value)


def row_threads(program, row):
    """The rising list of the threads of the row."""
    check_row(Machine(program), row)
    return threads_in(row)


def one_goal(program, goal):
    """The row of one leg that a schedule meets exactly if it meets the goal."""
    check_goal(Machine(program), goal)
    return [(tuple([(thread, "at", place) for thread, place in goal]), ())]


def is_fitting(program, thread, row, value):
    """Whether any value is a cut run of the thread that fits the row."""
    check_thread_and_row(program, thread, row)
    if not are_runs(value) or len(value) != len(row):
        return False
    wishes = Wishes(row, thread)
    walk = Walk(program, program.threads()[thread], 0)
    for leg, numbers in enumerate(value):
        if not walk.step_leg(wishes, leg, numbers) or not walk.may_cut(wishes, leg, numbers):
            return False
    return True


def check_thread_and_row(program, thread, row):
    """Raise the error of the first one that is no program, no thread of it, no row of it."""
    machine = Machine(program)
    check_thread(program, thread)
    check_row(machine, row)
