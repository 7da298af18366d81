"""Weaving and taking apart [6a1] to [6a4]."""

import itertools

from cutruns.errors import (
    InvalidProgram,
    InvalidRun,
    InvalidRuns,
    InvalidSchedule,
    InvalidThread,
    NotAgreeing,
    TooMany,
)
from cutruns.flows import Flow
from cutruns.machine import is_schedule
from cutruns.orders import agree
from cutruns.programs import Program
from cutruns.weaving import apart, is_woven, pieces_of, woven
from cutruns.words import word_of
from tests.helper import STRANGE, Case, bent
from tests.plain import any_row, cuts_of, local_runs, programs_and_rows
from tests.test_orders import words_and_runs

# One hold behind the other, and one within the other, of the locks 0 and 1; the threads go the other way round.
ROW = Program(2, 0, 1, [(("hold", 0, ()), ("hold", 1, ())), (("hold", 1, (("hold", 0, ()),)),)], [0, 1, 0])
ROUND = Program(0, 0, 1, [(("loop", (("skip",),)),)], [0, 0, 0, 0])
DOOR = Program(1, 1, 1, [(("hold", 0, (("touch", 0),)),)], [0, 0])


def steps(many):
    """A leg of so many moves of ROUND, at least one."""
    return [0, *[1] * (many - 1)]


class PiecesTest(Case):
    def test_the_flow_is_as_told_above(self):
        self.same([move[1] for move in Flow(ROW).moves()],
                  ["take", "step", "give", "take", "step", "give", "take", "take", "step", "give", "give"])

    def test_pieces(self):
        for runs, pieces in (
            ([[]], [[], []]),
            ([[0, 1, 2, 3]], [[0, 1, 2], [3], []]),
            ([[0, 1], [2, 3, 4], [5]], [[], [0, 1], [], [2], [3, 4], [], [5], []]),
            ([[0, 1, 2], [3, 4, 5], []], [[0, 1, 2], [3, 4, 5], [], []]),
        ):
            self.same(pieces_of(ROW, 0, runs), pieces)
            self.same(pieces_of(ROW, 2, tuple([tuple(leg) for leg in runs])), pieces)
        self.same(pieces_of(ROW, 1, [[6, 7, 8, 9], [10]]), [[], [6, 7, 8, 9], [], [10], []])
        self.same(pieces_of(ROW, 1, [[6, 7, 8], [9, 10]]), [[], [6], [7, 8], [], [9], [10], []])

    def test_against_the_definition(self):
        for told, program, row in programs_and_rows(range(80), (1,), (4, 6, 8), any_row):
            moves = [move[1:3] for move in Flow(program).moves()] + [("back", None)]
            for numbers, _ in local_runs(program, program.threads()[0], 0, 9, 60)[0]:
                for runs in cuts_of(numbers, len(row)):
                    if told.random() < 0.3:
                        pieces, word = pieces_of(program, 0, runs), word_of(program, 0, runs)
                        self.same(len(pieces), len(word))
                        # The pieces from each start or cut up to the next cut are a leg.
                        cuts = [at for at, part in enumerate(word) if part[0] == "cut"]
                        bounds = list(zip([0, *cuts], cuts))
                        self.same([[number for piece in pieces[near:far] for number in piece] for near, far in bounds], runs)
                        self.same(pieces[-1], [])
                        for (edge, lock, used), piece in zip(word, pieces):
                            rest = piece
                            if edge in ("take", "give"):
                                self.same(moves[piece[0]], (edge, lock))
                                rest = piece[1:]
                            takes = [moves[number][1] for number in rest if moves[number][0] == "take"]
                            gives = [moves[number][1] for number in rest if moves[number][0] == "give"]
                            self.same([sorted(set(takes)), sorted(takes)], [list(used), sorted(gives)])

    def test_errors(self):
        for value in STRANGE:
            self.fails(InvalidProgram, {"value": value}, pieces_of, value, 7, None)
            self.fails(InvalidThread, {"value": value}, pieces_of, ROW, value, None)
        for value in (*STRANGE, [[]] * 4, [[0, None]], [[*steps(401)]]):
            self.fails(InvalidRun, {"position": None}, pieces_of, ROUND, 0, value)
        self.fails(InvalidRun, {"position": 2}, pieces_of, ROW, 0, [[0], [1, 0]])
        self.same(len(pieces_of(ROUND, 3, [steps(400)])[0]), 400)

    def test_new_lists(self):
        runs = [[0], [1, 2]]
        for piece in pieces_of(ROW, 0, runs):
            piece.append(9)
        self.same(pieces_of(runs=runs, thread=0, program=ROW), [[], [0], [1], [2], []])
        self.same(runs, [[0], [1, 2]])


class WovenTest(Case):
    def weaves(self, program, runs):
        told = woven(program, runs)
        self.is_true(is_woven(program, runs, told))
        self.is_true(is_schedule(program, [event for leg in told for event in leg]))
        legs = [[[number for one, number in leg if one == thread] for leg in told] for thread, _ in runs]
        self.same(legs, [[list(leg) for leg in run] for _, run in runs])
        self.same(sum([len(leg) for leg in told]), sum([len(leg) for _, run in runs for leg in run]))
        return told

    def test_one_run(self):
        self.same(woven(ROW, [(1, [[6, 7], [], [8]])]), [[(1, 6), (1, 7)], [], [(1, 8)]])
        self.same(woven(ROW, ((2, ((), (0,))),)), [[], [(2, 0)]])
        self.same(woven(ROW, [(0, [[]])]), [[]])

    def test_who_comes_first(self):
        self.same(self.weaves(DOOR, [(0, [[0]]), (1, [[0, 1, 2]])]), [[(1, 0), (1, 1), (1, 2), (0, 0)]])
        self.same(self.weaves(DOOR, [(1, [[0]]), (0, [[0, 1, 2]])]), [[(0, 0), (0, 1), (0, 2), (1, 0)]])
        self.same(self.weaves(DOOR, [(0, [[0], [1, 2]]), (1, [[], [0, 1, 2]])])[1][:2], [(0, 1), (0, 2)])
        self.weaves(ROW, [(0, [[0, 1, 2, 3]]), (1, [[]]), (2, [[0]])])
        self.weaves(ROW, [(0, [[0], [1, 2, 3], [4]]), (2, [[], [0, 1, 2], []]), (1, [[], [], []])])

    def test_a_use_that_waits_for_another_thread(self):
        # Thread 0 takes its lock at once, but the one that it uses behind that only once thread 1 has given it.
        held = Program(2, 0, 1, [(("hold", 0, (("hold", 1, ()), ("skip",))),), (("hold", 1, ()),)], [0, 1])
        for runs in ([(0, [[], [0, 1, 2, 3]]), (1, [[6], [7, 8]])], [(1, [[6], [7, 8]]), (0, [[], [0, 1, 2, 3]])]):
            told = self.weaves(held, runs)
            self.assertLess(told[1].index((1, 8)), told[1].index((0, 1)))
        self.weaves(held, [(0, [[0], [1, 2, 3, 4, 5]]), (1, [[], [6, 7, 8]])])

    def test_runs_that_do_not_agree(self):
        for runs in ([(0, [[0]]), (1, [[0]])], [(0, [[0], []]), (1, [[], [0, 1, 2]])], [(1, [[0], [1, 2]]), (0, [[0, 1], []])]):
            self.fails(NotAgreeing, {}, woven, DOOR, runs)
        self.fails(NotAgreeing, {}, woven, ROW, [(0, [[0, 1, 2, 3]]), (1, [[6]])])

    def test_woven_exactly_if_the_words_agree(self):
        for words, runs, program in words_and_runs(range(5000, 5250), (1, 2, 3)):
            if agree(words):
                self.weaves(program, runs)
            else:
                self.fails(NotAgreeing, {}, woven, program, runs)

    def test_400_events_and_401(self):
        for runs in ([(0, [steps(400)])], [(0, [steps(200)]), (3, [steps(200)])], [(k, [steps(60), [1] * 40]) for k in range(4)]):
            self.weaves(ROUND, runs)
        more = [(0, [steps(200)]), (3, [steps(201)])]
        self.fails(TooMany, {"what": "events", "limit": 400}, woven, ROUND, more)
        self.is_false(is_woven(ROUND, more, [[(0, number) for number in steps(200)] + [(3, number) for number in steps(201)]]))
        self.fails(TooMany, {"what": "events", "limit": 400}, woven, ROUND, [(k, [steps(400)]) for k in range(4)])
        both = Program(1, 0, 1, [(("hold", 0, (("loop", (("skip",),)),)),)], [0, 0])
        self.fails(NotAgreeing, {}, woven, both, [(k, [[0, 1, *[2] * 300]]) for k in (0, 1)])

    def test_by_name(self):
        runs = [(0, [[0]]), (1, [[0, 1, 2]])]
        told = woven(runs=runs, program=DOOR)
        self.is_true(is_woven(value=told, runs=runs, program=DOOR))
        told[0].clear()
        self.same(len(woven(DOOR, runs)[0]), 4)
        self.same(runs, [(0, [[0]]), (1, [[0, 1, 2]])])


class IsWovenTest(Case):
    RUNS = [(0, [[0], [1, 2]]), (1, [[], [0]])]
    TOLD = [[(0, 0)], [(0, 1), (0, 2), (1, 0)]]

    def test_each_way_and_no_other(self):
        runs = [(0, [[0, 1, 2]]), (1, [[0, 1]])]
        events = [(0, 0), (0, 1), (0, 2), (1, 0), (1, 1)]
        right = [list(one) for one in itertools.permutations(events) if is_woven(DOOR, runs, [list(one)])]
        self.same(right, [events])
        free = [(0, [steps(2)]), (2, [steps(2)])]
        events = [(0, 0), (0, 1), (2, 0), (2, 1)]
        self.same(sum([is_woven(ROUND, free, [list(one)]) for one in itertools.permutations(events)]), 6)

    def test_values(self):
        self.is_true(is_woven(DOOR, self.RUNS, self.TOLD))
        self.is_true(is_woven(DOOR, tuple(self.RUNS), tuple([tuple(leg) for leg in self.TOLD])))
        for value in (
            *STRANGE, *bent(self.TOLD), [*self.TOLD, []], [self.TOLD[0] + self.TOLD[1]], self.TOLD[:1], self.TOLD[1:],
            [[(0, 0), (0, 1)], [(0, 2), (1, 0)]], [[(0, 0)], [(1, 0), (0, 1), (0, 2)]], [[(0, 0)], [(0, 1), (0, 2)]],
            [[(0, 0)], [(0, 1), (0, 2), (1, 0), (1, 1)]], [[(0, 0)], [[0, 1], [0, 2], [1, 0]]], [[(1, 0)], [(1, 1), (1, 2), (0, 0)]],
        ):
            self.is_false(is_woven(DOOR, self.RUNS, value))

    def test_other_threads(self):
        runs = [(0, [[0, 1, 2]])]
        self.is_true(is_woven(DOOR, runs, [[(0, 0), (0, 1), (0, 2)]]))
        self.is_false(is_woven(DOOR, runs, [[(1, 0), (1, 1), (1, 2)]]))
        self.is_false(is_woven(DOOR, runs, [[(0, 0), (0, 1), (0, 2), (1, 0)]]))
        self.is_false(is_woven(DOOR, runs, [[(0, 0), (0, 1)]]))


class ApartTest(Case):
    def test_apart(self):
        legs = [[(1, 6)], [(1, 7), (1, 8)]]
        self.same(apart(ROW, legs), [(0, [[], []]), (1, [[6], [7, 8]]), (2, [[], []])])
        self.same(apart(ROW, tuple([tuple(leg) for leg in legs])), apart(ROW, legs))
        self.same(apart(ROW, [[]]), [(0, [[]]), (1, [[]]), (2, [[]])])
        self.same(apart(ROW, [[], [(2, 0)], []]), [(0, [[]] * 3), (1, [[]] * 3), (2, [[], [0], []])])

    def test_woven_ones(self):
        for words, runs, program in words_and_runs(range(6000, 6100), (1, 2, 3)):
            if agree(words):
                told = woven(program, runs)
                self.same(apart(program, told), runs)
                self.is_true(is_woven(program, apart(program, told), told))

    def test_errors(self):
        for value in (*STRANGE, [], (), [[]] * 4, [[], None], {0: []}, [[(0, 0)], 0], [{}]):
            if value == (((),),):
                # One schedule of an event that can't be done.
                self.fails(InvalidSchedule, {"position": 0}, apart, ROW, value)
                continue
            self.fails(InvalidSchedule, {"position": None}, apart, ROW, value)
        for legs, position in (
            ([[(0, 1)]], 0), ([[(0, 0)], [], [(2, 0)]], 1), ([[(0, 0), (0, 1)], [(1, 6), (1, 7), (0, 0)]], 3), ([[(3, 0)]], 0),
            ([[None]], 0), ([[(0, 0), [0, 1]]], 1), ([[(False, 0)]], 0), ([[], [(0, 0, 0)]], 0), ([[(0, 0)], [(0, True)]], 1),
        ):
            self.fails(InvalidSchedule, {"position": position}, apart, ROW, legs)
        self.same(len(apart(ROUND, [[(0, number) for number in steps(400)]])[0][1][0]), 400)
        for legs in ([[(0, number) for number in steps(401)]], [[(9, 9)] * 200, [(0, 0)] * 201]):
            self.fails(InvalidSchedule, {"position": None}, apart, ROUND, legs)
        for value in STRANGE:
            self.fails(InvalidProgram, {"value": value}, apart, value, None)

    def test_new_lists(self):
        legs = [[(0, 0)], []]
        apart(DOOR, legs)[0][1][0].clear()
        self.same(apart(legs=legs, program=DOOR), [(0, [[0], []]), (1, [[], []])])
        self.same(legs, [[(0, 0)], []])


class ErrorsTest(Case):
    def test_no_runs(self):
        for value in (
            *STRANGE, [], (), [(0, [[]]), (0, [[]])], [(0, [[]]), (1, [[], []])], [(2, [[]])], [(0, [[1]])], [(0, [[]] * 4)], [(0, [])],
            [(0, [[]], 0)], [(0,)], [[0, [[]]]], [(0, [[0, 0]])], [(0, [[0], [2]])], [(0, [[5]])], [(k, [[]]) for k in range(5)],
            [(0, [steps(401)])], *bent([(0, [[0], [1, 2]]), (1, [[], [0]])]),
        ):
            self.fails(InvalidRuns, {"value": value}, woven, DOOR, value)
            self.fails(InvalidRuns, {"value": value}, is_woven, DOOR, value, None)
        five = Program(0, 0, 1, [()], [0] * 4)
        self.same(woven(five, [(k, [[]]) for k in range(4)]), [[]])

    def test_programs(self):
        for value in STRANGE:
            self.fails(InvalidProgram, {"value": value}, woven, value, None)
            self.fails(InvalidProgram, {"value": value}, is_woven, value, None, None)
