"""Going through procedures [5a1] to [5a4]."""

from cutruns.errors import InvalidProgram, InvalidRow, InvalidThread, InvalidThrough, NoThrough, TooMany
from cutruns.flows import Flow
from cutruns.programs import Program
from cutruns.throughs import is_run_through, length_through, run_through, throughs
from tests.helper import STRANGE, Case, bent
from tests.parts import REST, start
from tests.plain import any_row, cuts_of, late_mode, local_runs, met_row, plain_word, programs_and_rows

FREE = [((), ())]
# Procedure 0: 0 -take 0-> 2 -call 1-> 3 -give-> 1; procedure 1: 4 -set 1-> 6 -touch-> 5. BACK is 5.
DEED = Program(1, 1, 2, [(("hold", 0, (("call", 1),)),), (("set", 1), ("touch", 0))], [0, 1])
# It calls itself as often as it likes.
AGAIN = Program(1, 0, 1, [(("either", (("hold", 0, ()),), (("call", 0), ("call", 0))),)], [0])
# Each procedure calls the next one twice, so that the last one is gone through 256 times.
TWICE = Program(0, 0, 1, [(("call", at + 1),) * 4 for at in range(4)] + [(("skip",),)], [0])
HOLDS = ("either", (("hold", 0, ()),), (("either", (("hold", 1, ()),), (("either", (("hold", 2, ()),), (("hold", 3, ()),)),)),))
# For three legs without items it has 19,952 withins; a procedure of n skips has 6 times n + 1.
LOOPS = (("loop", (
    ("hold", 0, (("loop", (("skip",),)), ("hold", 2, (("skip",), ("skip",))))),
    ("loop", (("skip",), ("hold", 1, (("skip",), ("skip",))))),
)),)
WIDE = Program(4, 0, 1, [(("loop", (HOLDS,)),)], [0])


def plain_throughs(program, row, thread, most):
    """All throughs of lists of at most so many moves, each with the fewest, and how many moves are the most."""
    found, legs = {}, len(row)
    for procedure in range(len(program.bodies())):
        for mode in range(program.modes):
            runs, most = local_runs(program, procedure, mode, most, 300)
    for procedure in range(len(program.bodies())):
        for mode in range(program.modes):
            runs, _ = local_runs(program, procedure, mode, most, 10 ** 6)
            end = Flow(program).end_of(procedure)
            for numbers, state in runs:
                if state[0][0][1] == (end,):
                    for phase in range(legs):
                        for late in range(phase, legs):
                            for told in cuts_of(numbers, late - phase + 1):
                                later = late_mode(program, procedure, mode, row, phase, told, thread, False)
                                if later is not None:
                                    through = (procedure, phase, mode, late, later, plain_word(program, told)[:-1])
                                    found.setdefault(through, len(numbers))
    return found, most


class ThroughsTest(Case):
    def test_the_flow_is_as_told_above(self):
        moves = [(0, "take", 0, 2), (2, "call", 1, 3), (3, "give", 0, 1), (4, "set", 1, 6), (6, "touch", 0, 5)]
        self.same(Flow(DEED).moves(), moves)

    def test_one_leg(self):
        told = [(0, 0, mode, 0, 1, start(used=(0,))) for mode in (0, 1)] + [(1, 0, mode, 0, 1, start()) for mode in (0, 1)]
        self.same(throughs(DEED, 0, FREE), told)
        self.same(throughs(DEED, 1, tuple(FREE)), told)
        self.same([length_through(DEED, 0, FREE, through) for through in told], [6, 6, 2, 2])
        self.same(run_through(DEED, 0, FREE, told[1]), [[0, 1, 3, 4, 5, 2]])

    def at_most(self, row, *told):
        """The throughs of procedure 0 from phase 0 and mode 0 to the phase 1."""
        found = [through[5] for through in throughs(DEED, 0, row) if through[:4] == (0, 0, 0, 1)]
        self.same(found, sorted(told))

    def test_cuts(self):
        held = start(("take", 0, ()), REST, ("give", 0, ()))
        ahead, behind = start(("cut", None, (0,))), start(REST, used=(0,))
        self.at_most([*FREE, *FREE], ahead, behind, held)
        for place, told in ((0, [ahead]), (2, [held]), (4, [held]), (6, [held]), (5, [held]), (3, [held]), (1, [behind])):
            self.at_most([(((0, "at", place),), ()), *FREE], *told)
            self.at_most([(((0, "in", (place, 1)),), ()), *FREE], *(told if place in (1, 3, 5, 6) else []))
            self.at_most([(((0, "in", (place, 0)),), ()), *FREE], *(told if place in (0, 2, 4) else []))
            self.at_most([(((1, "at", 0),), ()), (((0, "at", place),), ())], ahead, behind, held)
        for number, told in ((0, [held]), (1, [held]), (3, [held]), (4, [held]), (5, [held]), (2, [behind])):
            self.at_most([(((0, "behind", number),), ()), *FREE], *told)

    def test_cuts_where_lists_are_cut(self):
        for number, told in ((1, [[0, 1], [3, 4, 5, 2]]), (5, [[0, 1, 3, 4, 5], [2]]), (2, [[0, 1, 3, 4, 5, 2], []])):
            row = [(((0, "behind", number),), ()), *FREE]
            through = [one for one in throughs(DEED, 0, row) if one[:4] == (0, 0, 0, 1)][0]
            self.same(run_through(DEED, 0, row, through), told)
            self.same(length_through(DEED, 0, row, through), 6)

    def test_the_last_cut_is_not_within(self):
        row = [(((0, "at", 0),), ()), (((0, "at", 0),), ())]
        self.at_most(row, start(("cut", None, (0,))))
        # A move that is done in an earlier leg is not the last one of the next.
        row = [(((0, "behind", 0),), ()), (((0, "behind", 0),), ()), *FREE]
        self.same([through for through in throughs(DEED, 0, row) if through[1] == 0 and through[3] == 2], [])

    def test_bans(self):
        for number in range(6):
            found = throughs(DEED, 0, [((), ((0, number),))])
            self.same([through[0] for through in found], [1, 1] if number in (0, 1, 2, 5) else [])
            self.same(len(throughs(DEED, 1, [((), ((0, number),))])), 4)
        # BACK is done in the leg in which the through ends.
        self.at_most([((), ((0, 5),)), *FREE], start(("cut", None, (0,))), start(("take", 0, ()), REST, ("give", 0, ())))
        self.at_most([*FREE, ((), ((0, 5),))], start(REST, used=(0,)), start(("take", 0, ()), REST, ("give", 0, ())))

    def test_modes_let_or_bar(self):
        program = Program(0, 0, 3, [(("when", 1, (("set", 2),), ()),)], [0])
        self.same([through[2:5] for through in throughs(program, 0, FREE)], [(0, 0, 0), (1, 0, 2), (2, 0, 2)])

    def test_a_lock_of_its_own(self):
        within = Program(2, 0, 1, [(("hold", 0, (("call", 1),)),), (("either", (("hold", 0, ()),), (("hold", 1, ()),)),)], [0])
        self.same([one[5] for one in throughs(within, 0, FREE)], [start(used=(0, 1)), start(used=(0,)), start(used=(1,))])
        never = Program(1, 0, 1, [(("hold", 0, (("hold", 0, ()),)),), (("hold", 0, (("call", 1),)),)], [0])
        self.same(throughs(never, 0, FREE), [])

    def test_calls_of_itself(self):
        self.same(throughs(AGAIN, 0, FREE), [(0, 0, 0, 0, 0, start(used=(0,)))])
        endless = Program(1, 0, 1, [(("call", 0),), (("loop", (("hold", 0, ()),)),)], [0])
        self.same(throughs(endless, 0, FREE), [(1, 0, 0, 0, 0, start()), (1, 0, 0, 0, 0, start(used=(0,)))])

    def test_against_all_lists_of_moves(self):
        met = 0
        for row in (any_row, met_row):
            for told, program, row in programs_and_rows(range(150), (1, 2), (3, 5, 6), row):
                thread = told.randrange(len(program.threads()))
                plain, most = plain_throughs(program, row, thread, 8)
                found = throughs(program, thread, row)
                self.same(found, sorted(found))
                self.same(len(found), len(set(found)))
                lengths = {through: length_through(program, thread, row, through) for through in found}
                self.assertEqual({through: length for through, length in lengths.items() if length <= most}, plain)
                met += len(plain)
                for through in found[:5]:
                    run = run_through(program, thread, row, through)
                    self.same(sum([len(leg) for leg in run]), lengths[through])
                    self.is_true(is_run_through(program, thread, row, through, run))
        self.assertGreater(met, 1000)

    def test_new_lists(self):
        throughs(DEED, 0, FREE).clear()
        run_through(DEED, 0, FREE, (1, 0, 0, 0, 1, start()))[0].clear()
        self.same(run_through(through=(1, 0, 0, 0, 1, start()), row=FREE, thread=0, program=DEED), [[3, 4]])
        self.same(len(throughs(row=FREE, thread=0, program=DEED)), 4)
        self.same(FREE, [((), ())])


class LengthTest(Case):
    THROUGH = (0, 0, 0, 0, 0, start())

    def test_400_moves_and_more(self):
        # Each call is two moves more than what is called.
        lengths = [1]
        for _ in range(4):
            lengths.append(4 * (lengths[-1] + 2))
        for at, length in enumerate(lengths[::-1]):
            through = (at, *self.THROUGH[1:])
            self.same(length_through(TWICE, 0, FREE, through), length)
            if length > 400:
                self.fails(TooMany, {"what": "moves", "limit": 400}, run_through, TWICE, 0, FREE, through)
            else:
                self.same(len(run_through(TWICE, 0, FREE, through)[0]), length)
        exact = Program(0, 0, 1, [(("call", 1),) * 4, (("call", 2),) * 14, (("skip",),) * 5], [0])
        self.same(length_through(exact, 0, FREE, self.THROUGH), 400)
        self.same(len(run_through(exact, 0, FREE, self.THROUGH)[0]), 400)
        more = Program(0, 0, 1, [(("call", 1),) * 4 + (("skip",),), (("call", 2),) * 14, (("skip",),) * 5], [0])
        self.same(length_through(more, 0, FREE, self.THROUGH), 401)
        self.fails(TooMany, {"what": "moves", "limit": 400}, run_through, more, 0, FREE, self.THROUGH)

    def test_the_shortest_way(self):
        short = Program(0, 0, 1, [(("either", (("call", 1),), (("skip",),) * 5),), (("skip",),)], [0])
        # Two steps and the call, the call's one move and BACK.
        self.same(length_through(short, 0, FREE, self.THROUGH), 4)
        self.same(length_through(short, 0, [((), ((0, 1),))], self.THROUGH), 6)


class RunThroughTest(Case):
    ROW = [(((0, "behind", 1),), ()), (((0, "at", 3),), ((0, 0), (1, 4))), *FREE]
    THROUGH = (0, 0, 0, 2, 1, start(("take", 0, ()), REST, REST, ("give", 0, ())))
    RUN = [[0, 1], [3, 4, 5], [2]]

    def goes(self, through, value):
        return is_run_through(DEED, 0, self.ROW, through, value)

    def test_runs(self):
        self.is_true(self.goes(self.THROUGH, self.RUN))
        self.is_true(self.goes(self.THROUGH, tuple([tuple(leg) for leg in self.RUN])))
        self.same(run_through(DEED, 0, self.ROW, self.THROUGH), self.RUN)

    def test_no_runs(self):
        for value in (
            [[0], [1, 3, 4, 5], [2]], [[0, 1], [3, 4], [5, 2]], [[0, 1, 3], [4, 5], [2]], [[0, 1], [3, 4, 5, 2], []],
            [[0, 1], [3, 4, 5]], [[0, 1], [3, 4, 5], []], [[0, 1], [3, 4, 5], [2, 5]], [[0, 1], [3, 4, 5], [2], []],
            [[0, 1, 3, 4, 5, 2]], [], [[], [], []], [[1], [3, 4, 5], [2]], [[0, 1], [4, 3, 5], [2]],
            *STRANGE, *bent(self.RUN),
        ):
            self.is_false(self.goes(self.THROUGH, value))

    def test_other_throughs(self):
        procedure, phase, mode, late, later, piece = self.THROUGH
        for through in (
            (1, phase, mode, late, later, piece), (procedure, phase, mode, late, 0, piece),
            (procedure, phase, mode, late, later, start(REST, REST)),
            (procedure, phase, mode, late, later, start(("take", 0, ()), REST, REST)),
            (procedure, phase, mode, late, later, start(REST, REST, used=(0,))),
        ):
            self.is_false(self.goes(through, self.RUN))
        # It hasn't come to the end, or has a leg that the row doesn't have.
        for value in ([[3]], [[3], [4]], [[3, 4], []]):
            self.is_false(is_run_through(DEED, 0, FREE, (1, 0, 0, 0, 1, start()), value))
        # From the mode 1 on it does the same.
        self.is_true(self.goes((procedure, phase, 1, late, later, piece), self.RUN))

    def test_phases(self):
        through = (0, 1, 0, 2, 1, start(("take", 0, ()), REST, ("give", 0, ())))
        self.is_false(self.goes(through, self.RUN[1:]))
        for ban in ((), ((1, 0),), ((0, 0),)):
            row = [self.ROW[0], (((0, "at", 3),), ban), *FREE]
            self.same(is_run_through(DEED, 0, row, through, [[0, 1, 3, 4, 5], [2]]), ban != ((0, 0),))
        # Anything goes in the first leg, as it is done ahead of the list.
        self.is_true(is_run_through(DEED, 0, [(((0, "at", 1),), ((0, 0),)), *FREE], (1, 1, 0, 1, 1, start()), [[3, 4]]))

    def test_longer_than_the_shortest(self):
        round_about = Program(0, 0, 1, [(("loop", (("skip",),)),)], [0])
        through = (0, 0, 0, 0, 0, start())
        for many in (0, 1, 5, 398):
            self.is_true(is_run_through(round_about, 0, FREE, through, [[0, *[1] * many, 2]]))
        self.is_false(is_run_through(round_about, 0, FREE, through, [[0, *[1] * 399, 2]]))

    def test_more_withins_are_no_matter(self):
        row = FREE * 3
        self.is_true(is_run_through(WIDE, 0, row, (0, 0, 0, 0, 0, start()), [[0, Flow(WIDE).many_moves - 1]]))


class ErrorsTest(Case):
    NOT_LIKE = (
        (1, 0, 0, 2, 0, start(REST)), (1, 0, 0, 1, 0, start()), (1, 0, 0, 0, 0, start(REST)), (1, 1, 0, 0, 0, start()),
        (2, 0, 0, 0, 0, start()), (0, 0, 2, 0, 0, start()), (0, 0, 0, 0, 2, start()), (0, 2, 0, 2, 0, start()),
        (0, 0, 0, 0, 0, start(used=(1,))), (0, 0, 0, 0, 0, start(("give", 1, ()))), (0, 0, 0, 0, 0), (0, 0, 0, 0, 0, ()),
        (0, 0, 0, 0, 0, start(), 0), [0, 0, 0, 0, 0, start()],
    )
    ROW = FREE * 2

    def test_no_throughs(self):
        for value in (*STRANGE, *self.NOT_LIKE, *bent((0, 0, 1, 1, 0, start(("take", 0, ()), REST, ("give", 0, ()))))):
            for action in (length_through, run_through):
                self.fails(InvalidThrough, {"value": value}, action, DEED, 0, self.ROW, value)
            self.fails(InvalidThrough, {"value": value}, is_run_through, DEED, 0, self.ROW, value, None)

    def test_throughs_that_do_not_come(self):
        for through in ((0, 0, 0, 0, 0, start(used=(0,))), (0, 0, 0, 0, 1, start()), (0, 0, 0, 1, 1, start(("give", 0, ()), REST)),
                        (1, 0, 0, 1, 0, start(REST))):
            self.fails(NoThrough, {}, length_through, DEED, 0, self.ROW, through)
            self.fails(NoThrough, {}, run_through, DEED, 0, self.ROW, through)
            self.is_false(is_run_through(DEED, 0, self.ROW, through, [[3, 4]]))

    def test_20000_withins_and_more(self):
        row, told = FREE * 3, {"what": "withins", "limit": 20000}
        self.fails(TooMany, told, throughs, WIDE, 0, row)
        for piece in (start(), start(("give", 0, ()))):
            self.fails(TooMany, told, length_through, WIDE, 0, row, (0, 0, 0, 0, 0, piece))
            self.fails(TooMany, told, run_through, WIDE, 0, row, (0, 0, 0, 0, 0, piece))
        self.fails(InvalidThrough, {"value": None}, length_through, WIDE, 0, row, None)
        self.same(len(throughs(WIDE, 0, FREE)), 16)

    def test_just_20000_withins_and_more(self):
        for many, more in ((7, False), (8, True)):
            program = Program(3, 0, 1, [LOOPS, (("skip",),) * many], [1])
            if more:
                self.fails(TooMany, {"what": "withins", "limit": 20000}, throughs, program, 0, FREE * 3)
            else:
                self.assertGreater(len(throughs(program, 0, FREE * 3)), 1000)

    def test_which_error_comes_first(self):
        for action, behind in ((throughs, ()), (length_through, (None,)), (run_through, (None,)), (is_run_through, (None, None))):
            for value in STRANGE:
                self.fails(InvalidProgram, {"value": value}, action, value, 7, None, *behind)
                self.fails(InvalidThread, {"value": value}, action, DEED, value, None, *behind)
                self.fails(InvalidRow, {"value": value}, action, DEED, 1, value, *behind)
            self.fails(InvalidThread, {"value": 2}, action, DEED, 2, FREE, *behind)
            self.fails(InvalidRow, {"value": FREE * 4}, action, DEED, 1, FREE * 4, *behind)
