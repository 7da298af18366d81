"""Callings [2b1], [2b2], [2b3]."""

from cutruns.callings import calls_of, dead_places, deepest, is_recursive, reached
from cutruns.errors import InvalidProgram, InvalidThread, TooMany
from cutruns.programs import Program
from tests.helper import STRANGE, Case

SKIP = ("skip",)
HOLD = ("hold", 0, ())


def program_of_calls(calls, threads):
    """A program whose procedures call so."""
    return Program(1, 0, 1, [tuple([("call", one) for one in row]) for row in calls], threads)


class CallsTest(Case):
    def test_at_whatever_place(self):
        bodies = [
            (("call", 3), ("hold", 0, (("call", 1),)), ("call", 3), ("loop", (("call", 0),))),
            (("either", (("call", 2),), (("call", 0),)), ("when", 0, (("call", 3),), (("call", 1),))),
            (SKIP,),
            (),
        ]
        self.same(calls_of(Program(1, 0, 1, bodies, [0])), [[0, 1, 3], [0, 1, 2, 3], [], []])

    def test_new_lists(self):
        program = program_of_calls([[1], []], [0])
        told = calls_of(program)
        told[0].append(0)
        told.append([])
        self.same(calls_of(program), [[1], []])
        reached(program, 0).clear()
        self.same(reached(program, 0), [0, 1])


class ReachedTest(Case):
    def test_reached(self):
        program = program_of_calls([[2], [1, 4], [5], [0], [], []], [0, 1, 3, 4])
        self.same([reached(program, at) for at in range(4)], [[0, 2, 5], [1, 4], [0, 2, 3, 5], [4]])

    def test_in_a_ring(self):
        program = program_of_calls([[1], [2], [0], [2]], [1, 3])
        self.same([reached(program, at) for at in range(2)], [[0, 1, 2], [0, 1, 2, 3]])

    def test_errors(self):
        program = program_of_calls([[]], [0, 0])
        for value in (*STRANGE, 2):
            self.fails(InvalidThread, {"value": value}, reached, program, value)
        self.fails(InvalidProgram, {"value": None}, reached, None, None)


class RecursiveTest(Case):
    def test_recursive(self):
        for calls, threads in (
            ([[0]], [0]), ([[1], [0]], [0]), ([[1], [2], [1]], [0]), ([[1], [2], [3], [1]], [0]), ([[], [1]], [0, 1]),
            ([[1, 2], [], [0]], [0]),
        ):
            self.is_true(is_recursive(program_of_calls(calls, threads)))
            self.same(deepest(program_of_calls(calls, threads)), None)

    def test_not_recursive(self):
        for calls, threads, most in (
            ([[]], [0], 1), ([[1], []], [0], 2), ([[1], []], [1], 1), ([[1], []], [1, 0], 2), ([[1, 2], [2], []], [0], 3),
            ([[], [1]], [0], 1), ([[1], [], [2]], [0, 1], 2), ([[1], [2], [3], [4], [5], []], [0], 6),
            ([[1], [2], [3], [4], [5], []], [2, 4], 4), ([[1, 1], []], [0, 0, 0], 2), ([[], [0], [1]], [2], 3),
        ):
            self.is_false(is_recursive(program_of_calls(calls, threads)))
            self.same(deepest(program_of_calls(calls, threads)), most)

    def test_a_call_that_is_dead_counts(self):
        program = Program(0, 0, 1, [(("call", 1), ("call", 0)), (("call", 1),)], [0])
        self.same(reached(program, 0), [0, 1])
        self.is_true(is_recursive(program))


class DeadTest(Case):
    def dead(self, bodies, threads, places):
        self.same(dead_places(Program(1, 0, 2, bodies, threads)), places)

    def test_all_alive(self):
        self.dead([(SKIP, ("loop", (HOLD,)), ("either", (), (("call", 1),))), (SKIP, SKIP)], [0], [])
        self.dead([()], [0], [])

    def test_procedures_that_nobody_calls(self):
        self.dead([(SKIP,), (SKIP, SKIP), ()], [0], [2, 3, 4, 5, 6])
        self.dead([(SKIP,), (SKIP, SKIP), ()], [2, 0], [2, 3, 4])
        self.dead([(SKIP,), (("call", 0),)], [0], [2, 3])

    def test_procedures_that_call_themselves(self):
        self.dead([(("call", 0),)], [0], [1])
        self.dead([(("call", 0), SKIP)], [0], [1, 2])
        self.dead([(("either", (), (("call", 0), SKIP)),)], [0], [])
        self.dead([(("call", 1), SKIP), (("call", 0),)], [0], [1, 2, 4])

    def test_an_end_that_comes_alive_late(self):
        # The call stands ahead of all that makes the called end alive.
        self.dead([(("call", 1), SKIP), (("call", 2),), (("call", 3),), ()], [0], [])
        self.dead([(), (("call", 0),), (("call", 1), SKIP)], [2], [])

    def test_an_end_that_another_thread_brings(self):
        self.dead([(("call", 1),), (SKIP,)], [0, 1], [])

    def test_modes_and_locks_are_left_aside(self):
        self.dead([(("when", 1, (SKIP, SKIP), ()), ("hold", 0, (HOLD,)))], [0], [])

    def test_moves_that_only_dead_places_have(self):
        self.dead([(("call", 1), ("either", (SKIP,), (HOLD,))), (("call", 1),)], [0], [1, 2, 3, 4, 5, 6, 8])

    def test_exactly_160_places_and_more(self):
        self.dead([(HOLD,) * 53], [0], [])
        more = Program(1, 0, 1, [(HOLD,) * 53 + (SKIP,)], [0])
        self.fails(TooMany, {"what": "places", "limit": 160}, dead_places, more)
        self.same([calls_of(more), is_recursive(more), reached(more, 0), deepest(more)], [[[]], False, [0], 1])


class AllTest(Case):
    def test_no_program(self):
        for value in (*STRANGE, Program):
            for action in (calls_of, is_recursive, deepest, dead_places):
                self.fails(InvalidProgram, {"value": value}, action, value)

    def test_by_name(self):
        program = program_of_calls([[1], []], [0])
        told = [calls_of(program=program), is_recursive(program=program), reached(thread=0, program=program)]
        self.same(told, [[[1], []], False, [0, 1]])
        self.same([deepest(program=program), dead_places(program=program)], [2, []])
