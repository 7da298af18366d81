"""Programs [5], [1b1]."""

from cutruns.errors import (
    InvalidBodies,
    InvalidCells,
    InvalidLocks,
    InvalidModes,
    InvalidProgram,
    InvalidThreads,
    TooMany,
)
from cutruns.programs import Program, with_threads
from tests.helper import STRANGE, Case

SKIP = ("skip",)
BODY = (("hold", 1, (("write", 2), ("call", 1))), ("when", 1, (SKIP,), ()))


def sample():
    return Program(2, 3, 2, [BODY, ()], [1, 0, 1])


class ProgramTest(Case):
    def test_what_it_tells(self):
        program = sample()
        self.same([program.locks, program.cells, program.modes], [2, 3, 2])
        self.same(program.bodies(), [BODY, ()])
        self.same(program.threads(), [1, 0, 1])
        self.same(program.shape(), (2, 3, 2, 2))

    def test_tuples_for_lists(self):
        self.is_true(Program(2, 3, 2, (BODY, ()), (1, 0, 1)) == sample())
        self.same(Program(2, 3, 2, (BODY, ()), (1, 0, 1)).bodies(), [BODY, ()])
        self.same(Program(2, 3, 2, (BODY, ()), (1, 0, 1)).threads(), [1, 0, 1])

    def test_by_name(self):
        self.is_true(Program(threads=[1, 0, 1], bodies=[BODY, ()], modes=2, cells=3, locks=2) == sample())
        self.same(with_threads(threads=[0], program=sample()).threads(), [0])

    def test_counts_at_their_bounds(self):
        for locks, cells, modes in ((0, 0, 1), (4, 4, 4), (0, 4, 1), (4, 0, 4), (2, 2, 2)):
            program = Program(locks, cells, modes, [()], [0])
            self.same(program.shape(), (locks, cells, modes, 1))

    def test_counts_beyond_their_bounds(self):
        for value in (*STRANGE, 5, 6):
            self.fails(InvalidLocks, {"value": value}, Program, value, 0, 1, [()], [0])
            self.fails(InvalidCells, {"value": value}, Program, 0, value, 1, [()], [0])
            self.fails(InvalidModes, {"value": value}, Program, 0, 0, value, [()], [0])
        self.fails(InvalidModes, {"value": 0}, Program, 0, 0, 0, [()], [0])

    def test_one_to_six_procedures(self):
        for many in range(1, 7):
            called = (("call", many - 1),)
            self.same(Program(0, 0, 1, [called] * many, [many - 1]).shape(), (0, 0, 1, many))
            self.fails(InvalidBodies, {"value": [(("call", many),)] * many}, Program, 0, 0, 1, [(("call", many),)] * many, [0])
        self.fails(InvalidBodies, {"value": []}, Program, 0, 0, 1, [], [0])
        self.fails(InvalidBodies, {"value": [()] * 7}, Program, 0, 0, 1, [()] * 7, [0])

    def test_wrong_bodies(self):
        for value in (*STRANGE, [BODY, None], [[SKIP]], [SKIP], (SKIP,), [()] * 7, [(("mark", True),)], "skip"):
            self.fails(InvalidBodies, {"value": value}, Program, 2, 3, 2, value, [0])

    def test_statements_six_deep_and_seven_deep(self):
        body = ()
        for _ in range(6):
            body = (("loop", body),)
        self.same(Program(0, 0, 1, [body], [0]).bodies(), [body])
        deep = (("loop", body),)
        self.fails(InvalidBodies, {"value": [(), deep]}, Program, 0, 0, 1, [(), deep], [0])

    def test_bodies_are_of_the_counts(self):
        for locks, cells, modes in ((1, 3, 2), (2, 2, 2), (2, 3, 1)):
            self.fails(InvalidBodies, {"value": [BODY, ()]}, Program, locks, cells, modes, [BODY, ()], [0])
        self.fails(InvalidBodies, {"value": [BODY]}, Program, 2, 3, 2, [BODY], [0])

    def test_one_to_four_threads(self):
        for many in range(1, 5):
            self.same(Program(0, 0, 1, [()], [0] * many).threads(), [0] * many)
        for threads in ([], [0] * 5, (), (0,) * 5):
            self.fails(InvalidThreads, {"value": threads}, Program, 0, 0, 1, [()], threads)

    def test_wrong_threads(self):
        for threads in (*STRANGE, 0, [2], [0, 2], [-1], [True], [0, False], ["0"], [[0]], {0: 0}, [None, 0]):
            self.fails(InvalidThreads, {"value": threads}, Program, 2, 3, 2, [BODY, ()], threads)
            self.fails(InvalidThreads, {"value": threads}, with_threads, sample(), threads)

    def test_sixty_statements_and_one_more(self):
        half = (("loop", (SKIP,) * 29),)
        self.same(len(Program(0, 0, 1, [half, half], [0]).bodies()), 2)
        self.same(Program(0, 0, 1, [(SKIP,) * 60], [0]).bodies(), [(SKIP,) * 60])
        for bodies in ([half, half, (SKIP,)], [(SKIP,) * 61], [(), (("either", (SKIP,) * 30, (SKIP,) * 30),)]):
            self.fails(TooMany, {"what": "statements", "limit": 60}, Program, 0, 0, 1, bodies, [0])

    def test_which_error_comes_first(self):
        many = [(SKIP,) * 61]
        self.fails(InvalidLocks, {"value": 5}, Program, 5, 5, 5, None, None)
        self.fails(InvalidCells, {"value": 5}, Program, 4, 5, 5, None, None)
        self.fails(InvalidModes, {"value": 5}, Program, 4, 4, 5, None, None)
        self.fails(InvalidBodies, {"value": None}, Program, 4, 4, 4, None, None)
        self.fails(InvalidThreads, {"value": None}, Program, 4, 4, 4, many, None)
        self.fails(InvalidThreads, {"value": [1]}, Program, 4, 4, 4, many, [1])
        self.fails(TooMany, {"what": "statements", "limit": 60}, Program, 4, 4, 4, many, [0])
        self.fails(InvalidProgram, {"value": None}, with_threads, None, None)

    def test_it_copies_what_it_is_given(self):
        bodies, threads = [BODY, ()], [1, 0, 1]
        program = Program(2, 3, 2, bodies, threads)
        self.same([bodies, threads], [[BODY, ()], [1, 0, 1]])
        bodies.append(())
        threads[0] = 0
        self.same([program.bodies(), program.threads()], [[BODY, ()], [1, 0, 1]])

    def test_told_lists_are_new(self):
        program = sample()
        program.bodies().clear()
        program.threads().append(0)
        self.same([program.bodies(), program.threads()], [[BODY, ()], [1, 0, 1]])

    def test_counts_are_not_altered(self):
        for name in ("locks", "cells", "modes"):
            with self.assertRaises(AttributeError):
                setattr(sample(), name, 1)

    def test_equal(self):
        self.is_true(sample() == sample())
        self.is_false(sample() != sample())
        for other in (
            Program(3, 3, 2, [BODY, ()], [1, 0, 1]),
            Program(2, 4, 2, [BODY, ()], [1, 0, 1]),
            Program(2, 3, 3, [BODY, ()], [1, 0, 1]),
            Program(2, 3, 2, [BODY, (SKIP,)], [1, 0, 1]),
            Program(2, 3, 2, [BODY, (), ()], [1, 0, 1]),
            Program(2, 3, 2, [(), BODY], [1, 0, 1]),
            Program(2, 3, 2, [BODY, ()], [1, 0]),
            Program(2, 3, 2, [BODY, ()], [0, 1, 1]),
        ):
            self.is_false(sample() == other)
            self.is_true(sample() != other)
        for other in (*STRANGE, (2, 3, 2, 2), [BODY, ()]):
            self.is_false(sample() == other)
            self.is_false(other == sample())

    def test_with_threads(self):
        program = sample()
        self.is_true(with_threads(program, [0]) == Program(2, 3, 2, [BODY, ()], [0]))
        self.is_true(with_threads(program, (1, 0, 1)) == program)
        self.same(program.threads(), [1, 0, 1])
        for value in (*STRANGE, Program, [BODY, ()]):
            self.fails(InvalidProgram, {"value": value}, with_threads, value, [0])
