"""Rows that can be met [6b1] to [6b4], and the guarantee about them [4]."""

import random

from cutruns.callings import deepest
from cutruns.ends import ends, length_to
from cutruns.errors import InvalidProgram, InvalidRow, TooMany
from cutruns.explorer import first_schedule
from cutruns.flows import Flow
from cutruns.machine import is_schedule
from cutruns.meetings import can_meet, is_meeting, meeting, meeting_length
from cutruns.orders import agree
from cutruns.programs import Program
from cutruns.rows import one_goal
from tests.helper import STRANGE, Case, bent
from tests.plain import any_row, fewest_events, met_row, program_of_seed, programs_and_rows
from tests.test_ends import MANY
from tests.test_throughs import WIDE
from tests.test_weaving import DOOR, ROUND, steps

FREE = [((), ())]
# 0 -take 0-> 2 -take 1-> 4 -skip-> 5 -give 1-> 3 -give 0-> 1, and the like with 6 to 11 the other way round; BACK is 10.
CROSS = Program(2, 0, 1, [(("hold", 0, (("hold", 1, (("skip",),)),)),), (("hold", 1, (("hold", 0, (("skip",),)),)),)], [0, 1])
# A thread that calls itself as deep as it likes, and one that waits for the lock that it holds.
DEEP = Program(1, 0, 2, [(("either", (("call", 0),), (("set", 1),)), ("mark", 0)), (("hold", 0, (("call", 0),)),), (("hold", 0, ()),)],
               [1, 2])
SKIPS = Program(0, 0, 1, [(("skip",),) * 3], [0, 0, 0])


class MeetingTest(Case):
    def meets(self, program, row, length):
        """The row's shortest list of schedules has this length, None if there is none."""
        self.same(can_meet(program, row), length is not None)
        self.same(meeting_length(program, row), length)
        self.same(meeting_length(program, tuple(row)), length)
        told = meeting(program, row)
        if length is None:
            self.same(told, None)
        else:
            self.is_true(is_meeting(program, row, told))
            self.same([len(told), sum([len(leg) for leg in told])], [len(row), length])

    def test_the_flow_is_as_told_above(self):
        self.same([move[:3] for move in Flow(CROSS).moves()][:5],
                  [(0, "take", 0), (2, "take", 1), (4, "step", None), (5, "give", 1), (3, "give", 0)])

    def test_rows_of_one_leg(self):
        for place, far, length in ((2, 8, 2), (2, 6, 1), (4, 8, None), (4, 10, None), (4, 6, 2), (2, 9, 5), (3, 6, 4), (1, 7, 10), (1, 8, 6)):
            self.meets(CROSS, [(((0, "at", place), (1, "at", far)), ())], length)

    def test_rows_of_more_legs(self):
        at = [[(((thread, "at", place),), ()) for place in range(12)] for thread in (0, 1)]
        # One has come to the inner place, and behind that the other one, with the first one still there, or not.
        self.meets(CROSS, [at[0][4], at[1][10]], 7)
        self.meets(CROSS, [at[0][4], (((0, "at", 4), (1, "at", 10)), ())], None)
        self.meets(CROSS, [at[0][4], (((1, "at", 10),), ((0, 4),))], None)
        self.meets(CROSS, [at[0][4], (((1, "at", 10),), ((0, 10),))], 7)
        self.meets(CROSS, [at[0][2], at[1][8], at[0][4]], None)
        self.meets(CROSS, [at[0][2], at[0][1], at[1][10]], 7)
        self.meets(CROSS, [at[0][2], (((1, "at", 8),), ((0, 1), (0, 2))), (((0, "behind", 1),), ())], None)
        self.meets(CROSS, [at[0][2], at[1][8], (((1, "behind", 6),), ())], 7)
        self.meets(CROSS, [at[0][2], at[1][8], (((0, "at", 2), (1, "behind", 6)), ())], None)
        self.meets(DOOR, [(((0, "behind", 0),), ()), (((1, "behind", 0),), ()), (((0, "behind", 2),), ())], None)
        self.meets(DOOR, [(((0, "behind", 0),), ()), (((0, "behind", 2),), ()), (((1, "behind", 0),), ())], 4)
        self.meets(DOOR, [(((0, "behind", 0),), ()), (((1, "behind", 0),), ((0, 0),))], 4)
        self.meets(DOOR, [(((0, "behind", 0),), ()), (((1, "behind", 0),), ((0, 2),))], None)

    def test_rows_without_items(self):
        self.same([meeting(CROSS, FREE * many) for many in (1, 2, 3)], [[[]], [[], []], [[], [], []]])
        self.meets(CROSS, [((), ((0, 0), (1, 5))), ((), ())], 0)
        self.meets(CROSS, [((), ()), (((0, "at", 2),), ())], 1)

    def test_bans_of_threads_that_stand_in_no_item(self):
        bans = tuple([(1, number) for number in range(5, 11)])
        self.meets(CROSS, [(((0, "at", 4),), bans)], 2)
        row = [(((0, "at", 4),), bans), *FREE]
        self.is_true(is_meeting(CROSS, row, [[(0, 0), (0, 1)], []]))
        # But what the thread does in a schedule is banned all the same.
        self.is_false(is_meeting(CROSS, row, [[(0, 0), (0, 1), (0, 2), (0, 3), (1, 5)], []]))
        self.is_false(is_meeting(CROSS, [(((0, "at", 3),), bans)], [[(0, 0), (0, 1), (0, 2), (0, 3), (1, 5)]]))
        self.is_true(is_meeting(CROSS, [(((0, "at", 3),), ())], [[(0, 0), (0, 1), (0, 2), (0, 3), (1, 5)]]))
        self.is_false(is_meeting(CROSS, row, [[(1, 5), (1, 6), (0, 0)], []]))

    def test_behind_back(self):
        flow = Flow(DEEP)
        back, mark = flow.many_moves, flow.place_ahead(0, [1])
        self.meets(DEEP, [(((0, "behind", back),), ())], 6)
        self.meets(DEEP, [(((0, "at", mark),), ()), (((0, "behind", back),), ((0, back),))], None)
        self.same(flow.moves()[8], (9, "take", 0, 11))
        self.meets(DEEP, [(((0, "behind", back),), ()), (((1, "behind", 8),), ())], 8)

    def test_recursion(self):
        moves = Flow(DEEP).moves()
        self.same([moves[1], moves[6], moves[8]], [(3, "call", 0, 2), (7, "call", 0, 8), (9, "take", 0, 11)])
        # Deeper and deeper, with the lock: the other one still waits.
        deep = (((0, "behind", 1),), ())
        self.meets(DEEP, [deep, deep, deep], 8)
        self.meets(DEEP, [deep, (((1, "at", 11),), ())], 12)
        self.meets(DEEP, [deep, (((0, "at", 0), (1, "at", 11)), ())], None)
        self.meets(DEEP, [(((0, "at", 1), (1, "at", 9)), ()), (((0, "at", 8),), ())], 6)
        self.meets(DEEP, [(((0, "at", 8), (1, "at", 11)), ())], None)

    def test_three_and_four_threads(self):
        # Each two of them can stand so, but not all three.
        holds = [(("hold", one, (("hold", other, ()), ("mark", 0))),) for one, other in ((0, 1), (1, 2), (2, 0))]
        ring = Program(3, 0, 1, holds, [0, 1, 2, 0])
        flow = Flow(ring)
        marks = [(thread, "at", flow.place_ahead(thread, [0, 0, 1])) for thread in range(3)]
        self.meets(ring, [(tuple(marks[:2]), ())], 8)
        self.meets(ring, [(tuple(marks[1:]), ())], 8)
        self.meets(ring, [(tuple(marks), ())], None)
        self.meets(ring, [((*marks[:2], (3, "at", 0)), ())], 8)
        self.meets(ring, [((*marks[:2], (3, "behind", 0)), ())], None)
        self.meets(SKIPS, [(((0, "at", 1), (1, "at", 2), (2, "behind", 1)), ())], 6)

    def test_a_row_is_met_exactly_if_schedules_meet_it(self):
        met = []
        for kind in (any_row, met_row):
            for told, program, row in programs_and_rows(range(9000, 9150), (1, 2, 2, 3), (4, 6), kind):
                deep = deepest(program)
                length = meeting_length(program, row)
                found, whole = fewest_events(program, row, deep or 4, 4000)
                if found is not None:
                    self.assertTrue(length == found or deep is None and length < found)
                elif whole:
                    self.same(length, None)
                met.append((length is not None, whole))
                self.meets(program, row, length)
        for one in ((True, True), (False, True)):
            self.assertGreater(met.count(one), 80)

    def test_the_fewest_events_are_the_least_sum_of_words_that_agree(self):
        for _, program, row in programs_and_rows(range(700, 760), (2,), (4, 6), met_row):
            if sorted({item[0] for items, _ in row for item in items}) == [0, 1]:
                sums = [length_to(program, 0, row, one) + length_to(program, 1, row, other)
                        for one in ends(program, 0, row) for other in ends(program, 1, row) if agree([one, other])]
                self.same(meeting_length(program, row), min(sums, default=None))

    def test_goals(self):
        for seed in range(40):
            program = program_of_seed(random.Random(seed), 2, 5)
            deep = deepest(program)
            if deep is not None:
                places = range(0, Flow(program).places, 2)
                for goal in [[(1, far), (0, near)] for near in places for far in places]:
                    schedule = first_schedule(program, goal, deep)
                    self.meets(program, one_goal(program, goal), None if schedule is None else len(schedule))
                    if schedule is not None:
                        self.is_true(is_meeting(program, one_goal(program, goal), [schedule]))

    def test_new_lists(self):
        row = [(((0, "at", 2),), ()), *FREE]
        meeting(CROSS, row)[0].clear()
        meeting(CROSS, FREE)[0].append(0)
        self.same([meeting(row=row, program=CROSS), meeting(CROSS, FREE)], [[[(0, 0)], []], [[]]])
        self.same([meeting_length(row=row, program=CROSS), can_meet(row=row, program=CROSS)], [1, True])
        self.is_true(is_meeting(value=[[(0, 0)], []], row=row, program=CROSS))
        self.same(row, [(((0, "at", 2),), ()), ((), ())])


class IsMeetingTest(Case):
    ROW = [(((1, "behind", 6), (0, "in", (0, 0))), ((1, 7),)), (((0, "at", 2),), ((1, 5), (0, 1)))]
    TOLD = [[(1, 5), (1, 6)], [(1, 7), (1, 8), (1, 9), (0, 0)]]

    def test_values(self):
        self.is_true(is_meeting(CROSS, self.ROW, self.TOLD))
        self.is_true(is_meeting(CROSS, tuple(self.ROW), tuple([tuple(leg) for leg in self.TOLD])))
        for value in (
            *STRANGE, *bent(self.TOLD), self.TOLD[:1], [*self.TOLD, []], [sum(self.TOLD, [])], [[], self.TOLD[0] + self.TOLD[1]],
            [[(1, 5)], [(1, 6), *self.TOLD[1]]], [self.TOLD[0], self.TOLD[1][:-1]], [self.TOLD[0], [*self.TOLD[1], (0, 1)]],
            [[*self.TOLD[0], (1, 7)], self.TOLD[1][1:]], [self.TOLD[0], [(0, 0), *self.TOLD[1][:3]]],
            [self.TOLD[0], [[*event] for event in self.TOLD[1]]], [[(1, 5), (1, 6), (1, 5)], self.TOLD[1]],
        ):
            self.is_false(is_meeting(CROSS, self.ROW, value))

    def test_behind_in_a_leg_in_which_nothing_was_done(self):
        row = [(((0, "behind", 0),), ()), (((0, "behind", 0),), ())]
        self.is_false(is_meeting(CROSS, row, [[(0, 0)], []]))
        self.same([meeting(CROSS, row), meeting(CROSS, row[:1])], [None, [[(0, 0)]]])
        self.is_false(is_meeting(CROSS, [*FREE, row[0]], [[(0, 0)], [(1, 5)]]))
        # The last event of the thread, not that of the schedule.
        self.is_true(is_meeting(CROSS, [row[0]], [[(0, 0), (1, 5)]]))

    def test_empty_legs(self):
        self.is_true(is_meeting(CROSS, FREE * 3, [[], [], []]))
        self.is_true(is_meeting(CROSS, FREE * 3, [[], [(0, 0)], []]))
        self.is_true(is_meeting(CROSS, [(((0, "at", 2),), ())] * 3, [[(0, 0)], [], []]))
        self.is_true(is_meeting(CROSS, [(((0, "at", 0), (1, "in", (6, 0))), ())], [[]]))
        self.is_false(is_meeting(CROSS, FREE, [[(0, 1)]]))

    def test_400_events_and_401(self):
        legs = [[(0, number) for number in steps(250)], [(3, number) for number in steps(150)]]
        self.is_true(is_meeting(ROUND, FREE * 2, legs))
        self.is_false(is_meeting(ROUND, FREE * 2, [legs[0], [*legs[1], (3, 1)]]))
        self.is_false(is_meeting(ROUND, FREE * 2, [legs[0] + [(0, 1)], legs[1]]))
        self.is_true(is_meeting(ROUND, FREE * 3, [*legs, []]))


class ErrorsTest(Case):
    def test_which_error_comes_first(self):
        for action, more in ((can_meet, ()), (meeting_length, ()), (meeting, ()), (is_meeting, (None,))):
            for value in STRANGE:
                self.fails(InvalidProgram, {"value": value}, action, value, None, *more)
                self.fails(InvalidRow, {"value": value}, action, CROSS, value, *more)
            self.fails(InvalidRow, {"value": FREE * 4}, action, CROSS, FREE * 4, *more)

    def test_words_and_withins(self):
        words, withins = {"what": "words", "limit": 1500}, {"what": "withins", "limit": 20000}
        end = Flow(MANY).end_of(1)
        for action in (can_meet, meeting_length, meeting):
            self.fails(TooMany, words, action, MANY, FREE * 2 + [(((0, "at", 1), (1, "at", end)), ())])
            self.fails(TooMany, withins, action, WIDE, FREE * 2 + [(((0, "at", 1),), ())])
        # Nothing is told of threads that stand in no item, and nothing at all where there are none.
        self.same(meeting_length(MANY, FREE * 2 + [(((1, "at", end),), ())]), 5)
        self.same(meeting(WIDE, FREE * 3), [[], [], []])
        self.is_true(is_meeting(WIDE, FREE * 2 + [(((0, "at", 0),), ())], [[], [], []]))

    def test_one_thread_behind_the_other(self):
        for threads, told in (([0, 4], ("words", 1500)), ([4, 0], ("withins", 20000))):
            both = Program(4, 0, 1, [*MANY.bodies(), WIDE.bodies()[0]], threads)
            # Where the one thread can't go round in the last procedure, it has too many words; the other one goes round.
            way = Flow(both).moves_from(Flow(both).begin_of(4))[0]
            bans = ((threads.index(0), way),)
            row = [((), bans), ((), bans), (((0, "at", 1), (1, "at", 1)), bans)]
            self.fails(TooMany, {"what": told[0], "limit": told[1]}, can_meet, both, row)

    def test_even_if_another_thread_can_not_come(self):
        never = Program(4, 0, 1, [*MANY.bodies(), ()], [4, 0])
        row = FREE * 2 + [(((0, "at", 0), (1, "at", 1)), ())]
        self.fails(TooMany, {"what": "words", "limit": 1500}, can_meet, never, row)
        self.is_false(can_meet(never, FREE * 2 + [(((0, "at", 0),), ())]))

    def test_400_events_and_more(self):
        long = [("call", 1)] * 4
        for more, length in ((0, 400), (1, 401)):
            bodies = [tuple(long) + (("skip",),) * more, (("call", 2),) * 14, (("skip",),) * 5]
            program = Program(0, 0, 1, bodies, [0, 1, 0])
            row = [(((0, "at", 1),), ())]
            self.same([meeting_length(program, row), can_meet(program, row)], [length, True])
            if length > 400:
                self.fails(TooMany, {"what": "events", "limit": 400}, meeting, program, row)
            else:
                self.is_true(is_schedule(program, meeting(program, row)[0]))
                both = [(((0, "at", 1), (1, "behind", 4)), ())]
                self.same(meeting_length(program, both), 401)
                self.fails(TooMany, {"what": "events", "limit": 400}, meeting, program, both)
