"""Moments [7], rows [4a1], cut runs that fit [4a2], one goal [4a7]."""

from cutruns.errors import InvalidGoal, InvalidProgram, InvalidRow, InvalidThread
from cutruns.flows import Flow
from cutruns.programs import Program
from cutruns.rows import is_fitting, is_moments, one_goal, row_threads
from tests.helper import STRANGE, Case, bent
from tests.plain import any_row, cuts_of, late_mode, local_runs, programs_and_rows

# Procedure 0: 0 -take 0-> 2 -set 1-> 4 -call 1-> 3 -give-> 1; procedure 1: 5 -step-> 6. BACK is 5.
CALLS = Program(1, 0, 2, [(("hold", 0, (("set", 1), ("call", 1))),), (("skip",),)], [0, 0])
FOUR = Program(0, 0, 2, [(("skip",), ("set", 1))], [0] * 4)
ROUND = Program(0, 0, 1, [(("loop", (("skip",),)),)], [0])
ITEMS = ((0, "at", 2), (3, "in", (1, 1)), (1, "behind", 2), (2, "behind", 0))


class MomentsTest(Case):
    def holds(self, program, *rows):
        for row in rows:
            self.is_true(is_moments(program, row))
            self.is_true(is_moments(program, tuple(row)))

    def holds_not(self, program, *values):
        for value in values:
            self.is_false(is_moments(program, value))
            self.fails(InvalidRow, {"value": value}, row_threads, program, value)

    def test_the_flow_is_as_told_above(self):
        moves = [(0, "take", 0, 2), (2, "set", 1, 4), (4, "call", 1, 3), (3, "give", 0, 1), (5, "step", None, 6)]
        self.same(Flow(CALLS).moves(), moves)
        self.same(Flow(FOUR).moves(), [(0, "step", None, 2), (2, "set", 1, 1)])

    def test_items(self):
        self.holds(FOUR, [((), ())], [(ITEMS, ())], [(ITEMS[2:], ())], [(ITEMS[:1], ())])
        for item in ((0, "at", 0), (0, "at", 6), (1, "in", (6, 1)), (1, "behind", 0), (1, "behind", 4), (1, "behind", 5)):
            self.holds(CALLS, [((item,), ())])

    def test_no_items(self):
        for item in (
            (2, "at", 0), (0, "at", 7), (0, "in", (7, 0)), (0, "in", (0, 2)), (0, "in", 0), (0, "at", (0, 0)),
            (0, "behind", 6), (0, "behind", (0, 0)), (0, "on", 0), (0, "at"), (0, "at", 0, 0), (0, 0, "at"), [0, "at", 0],
            (0, "in", [0, 0]), (0, "in", (0,)), (0, "in", (0, 0, 0)), (0, ["at"], 0), (-1, "at", 0), (0, "at", -1), (), 0,
        ):
            self.holds_not(CALLS, [((item,), ())], [((), ()), ((item, (1, "at", 0)), ())])

    def test_items_of_one_thread(self):
        self.holds_not(CALLS, [(((0, "at", 0), (0, "at", 0)), ())], [(((0, "at", 0), (1, "at", 0), (0, "behind", 1)), ())])
        self.holds(CALLS, [(((0, "at", 0),), ()), (((0, "at", 0),), ())])
        self.holds_not(FOUR, [((*ITEMS, (0, "at", 2)), ())], [((*ITEMS, (4, "at", 2)), ())])

    def test_bans(self):
        for many in (1, 2, 11, 12):
            self.holds(CALLS, [((), ((0, 1),) * many)], [((), tuple([(at % 2, at % 6) for at in range(many)]))])
        self.holds_not(CALLS, [((), ((0, 1),) * 13)])
        for ban in ((0, 6), (2, 0), (0,), (0, 1, 2), [0, 1], (0, None), 0, (), (-1, 0), (0, -1), (0, "1"), (True, 0)):
            self.holds_not(CALLS, [((), (ban,))], [((), ((0, 1), ban))])

    def test_legs(self):
        leg = (((0, "at", 0),), ((0, 0),))
        self.holds(CALLS, [leg], [leg] * 2, [leg] * 3)
        self.holds_not(CALLS, [], (), [leg] * 4, leg, [leg[:1]], [(*leg, ())], [list(leg)], [([leg[0]], ())])
        self.holds_not(CALLS, [(list(leg[0]), ())], [(leg[0], list(leg[1]))], [leg, None], {0: leg}, "row")

    def test_values_of_other_kinds(self):
        row = [(((0, "at", 1), (1, "in", (1, 1))), ((1, 1), (0, 0))), (((1, "behind", 1),), ())]
        self.holds(CALLS, row)
        self.holds_not(CALLS, *STRANGE, *bent(row))

    def test_programs(self):
        for value in STRANGE:
            for action in (is_moments, row_threads, one_goal):
                self.fails(InvalidProgram, {"value": value}, action, value, None)


class ThreadsTest(Case):
    def test_threads(self):
        self.same(row_threads(FOUR, [(ITEMS, ())]), [0, 1, 2, 3])
        self.same(row_threads(FOUR, [((), ((0, 0),)), ((ITEMS[1], ITEMS[0]), ()), ((ITEMS[1],), ())]), [0, 3])
        self.same(row_threads(FOUR, (((), ((2, 1),)),)), [])

    def test_new_lists(self):
        row = [(ITEMS, ())]
        row_threads(FOUR, row).clear()
        self.same(row_threads(row=row, program=FOUR), [0, 1, 2, 3])
        self.same(row, [(ITEMS, ())])


class GoalTest(Case):
    def test_goals(self):
        self.same(one_goal(CALLS, [(1, 6), (0, 0)]), [(((1, "at", 6), (0, "at", 0)), ())])
        self.same(one_goal(FOUR, ((3, 2),)), [(((3, "at", 2),), ())])
        self.same(one_goal(goal=[(0, 0), (1, 0), (2, 0), (3, 0)], program=FOUR), [(tuple([(k, "at", 0) for k in range(4)]), ())])

    def test_no_goals(self):
        for value in (*STRANGE, [], [(0, 0), (0, 1)], [(2, 0)], [(0, 7)], [(0, 0, 0)], (0, 0), *bent([(1, 1), (0, 0)])):
            self.fails(InvalidGoal, {"value": value}, one_goal, CALLS, value)


class FittingTest(Case):
    def fits(self, row, *runs):
        for run in runs:
            self.is_true(is_fitting(CALLS, 0, row, run))
            self.is_true(is_fitting(CALLS, 0, tuple(row), tuple([tuple(leg) for leg in run])))

    def fits_not(self, row, *values):
        for value in values:
            self.is_false(is_fitting(CALLS, 0, row, value))

    def test_anything_fits_nothing(self):
        self.fits([((), ())], [[]], [[0]], [[0, 1, 2, 4, 5, 3]])
        self.fits([((), ())] * 3, [[], [], []], [[0, 1], [], [2]], [[], [], [0, 1, 2, 4, 5, 3]])
        self.fits([(((1, "at", 1),), ((1, 0),))], [[]], [[0]])

    def test_what_cannot_be_done(self):
        self.fits_not([((), ())], [[1]], [[0, 0]], [[0, 1, 2, 5]], [[6]], [[0, 1, 2, 4, 5, 3, 5]], [[10 ** 29]])

    def test_legs_of_the_row(self):
        self.fits_not([((), ())], [[], []], [], [[0], [1]])
        self.fits_not([((), ())] * 3, [[]], [[], []], [[]] * 4)

    def test_at(self):
        row = [(((0, "at", 3),), ()), (((0, "at", 6),), ())]
        self.fits_not(row, [[0, 1, 2, 4, 5], []], [[0, 1], [2, 4]], [[0, 1, 2, 4], [5]])
        self.fits([(((0, "at", 3),), ()), (((0, "at", 1),), ())], [[0, 1, 2, 4, 5], [3]])
        self.fits([row[0]], [[0, 1, 2, 4, 5]])
        # Behind the call it stands in the procedure that is called, not where the call goes on.
        self.fits_not([row[0]], [[0, 1, 2]])
        self.fits([row[1]], [[0, 1, 2, 4]])

    def test_in(self):
        for place, mode, run in ((4, 1, [0, 1]), (2, 0, [0]), (6, 1, [0, 1, 2, 4])):
            self.fits([(((0, "in", (place, mode)),), ())], [run])
            self.fits_not([(((0, "in", (place, 1 - mode)),), ())], [run])
            self.fits_not([(((0, "in", (place - 1, mode)),), ())], [run])

    def test_behind(self):
        for number, run in ((0, [0]), (2, [0, 1, 2]), (5, [0, 1, 2, 4, 5])):
            self.fits([(((0, "behind", number),), ())], [run])
            self.fits([((), ()), (((0, "behind", number),), ())], [run[:-1], run[-1:]])
            # Done in an earlier leg it is not the last one of this one.
            self.fits_not([((), ()), (((0, "behind", number),), ())], [run, []])
            self.fits_not([(((0, "behind", number),), ())], [run[:-1]])

    def test_bans(self):
        run = [[0, 1], [2, 4, 5], [3]]
        free = [((), ())] * 3
        self.fits(free, run)
        for leg, numbers in enumerate(run):
            for number in range(6):
                for thread in (0, 1):
                    bans = ((1, 3), (thread, number))
                    row = [*free[:leg], ((), bans), *free[leg + 1:]]
                    self.same(is_fitting(CALLS, 0, row, run), thread == 1 or number not in numbers)

    def test_400_numbers_and_401(self):
        steps = [0, *[1, 1] * 199, 1]
        self.is_true(is_fitting(ROUND, 0, [((), ())], [steps]))
        self.is_true(is_fitting(ROUND, 0, [((), ())] * 2, [steps[:7], steps[7:]]))
        self.is_false(is_fitting(ROUND, 0, [((), ())], [[*steps, 1]]))
        self.is_false(is_fitting(ROUND, 0, [((), ())] * 2, [steps, [1]]))

    def test_values_of_other_kinds(self):
        self.fits_not([((), ())] * 2, *STRANGE, *bent([[0, 1], [2]]), [0], [[0, 1, 2]], {0: [], 1: []}, "ab")

    def test_against_all_cut_runs(self):
        for told, program, row in programs_and_rows(range(120), (1, 2), (4, 6), any_row):
            for thread, begin in enumerate(program.threads()):
                for numbers, _ in local_runs(program, begin, 0, 6, 60)[0]:
                    for run in cuts_of(numbers, len(row)):
                        if told.random() < 0.2:
                            late = late_mode(program, begin, 0, row, 0, run, thread, True)
                            self.same(is_fitting(program, thread, row, run), late is not None)

    def test_which_error_comes_first(self):
        for value in STRANGE:
            self.fails(InvalidProgram, {"value": value}, is_fitting, value, 5, None, None)
            self.fails(InvalidThread, {"value": value}, is_fitting, CALLS, value, None, None)
            self.fails(InvalidRow, {"value": value}, is_fitting, CALLS, 1, value, None)
        self.fails(InvalidThread, {"value": 2}, is_fitting, CALLS, 2, [], [[]])

    def test_by_name(self):
        row, run = [(((0, "at", 2),), ())], [[0]]
        self.is_true(is_fitting(value=run, row=row, thread=0, program=CALLS))
        self.same([row, run], [[(((0, "at", 2),), ())], [[0]]])
