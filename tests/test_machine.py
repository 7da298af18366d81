"""The plain machine [3a1] to [3a6], and events and schedules [6]."""

import itertools

from cutruns.errors import (
    InvalidEvent,
    InvalidPlace,
    InvalidProgram,
    InvalidSchedule,
    InvalidState,
    InvalidThread,
    TooMany,
)
from cutruns.flows import Flow
from cutruns.machine import (
    begin_state,
    blocks_at,
    done,
    events,
    has_ended,
    is_schedule,
    is_state,
    is_still,
    replayed,
    row_of,
    stands_at,
)
from cutruns.programs import Program
from tests.helper import STRANGE, Case

SKIP = ("skip",)
HOLD = ("hold", 0, ())
# Places 0 to 5 and 6 to 11, moves 0 to 4 and 5 to 9, BACK 10.
CROSS = Program(2, 0, 1, [(("hold", 0, (("hold", 1, ()),)),), (("hold", 1, (("hold", 0, ()),)),)], [0, 1])
# Procedure 0: 0 -take 0-> 3 -set 1-> 5 -call 1-> 4 -give-> 2 -skip-> 1; procedure 1: 6 -is 1-> 8 -skip-> 7,
# 6 -not 1-> 9 -call 1-> 7.
MODES = Program(1, 0, 2, [(("hold", 0, (("set", 1), ("call", 1))), SKIP), (("when", 1, (SKIP,), (("call", 1),)),)], [0, 1])
MODES_MOVES = [
    (0, "take", 0, 3), (3, "set", 1, 5), (5, "call", 1, 4), (4, "give", 0, 2), (2, "step", None, 1),
    (6, "is", 1, 8), (8, "step", None, 7), (6, "not", 1, 9), (9, "call", 1, 7),
]
BACK = 9
WIDE = Program(1, 0, 1, [(HOLD,) * 54], [0])


class BeginTest(Case):
    def test_begin(self):
        self.same(begin_state(CROSS), (((0, (0,)), (0, (6,))), (None, None)))
        self.same(begin_state(Program(0, 0, 1, [()], [0])), (((0, (0,)),), ()))
        self.same(begin_state(Program(4, 0, 4, [(), ()], [1, 0, 1, 1])), (((0, (2,)), (0, (0,)), (0, (2,)), (0, (2,))), (None,) * 4))

    def test_the_flow_is_as_told_above(self):
        self.same(Flow(MODES).moves(), MODES_MOVES)


class EventsTest(Case):
    def behind(self, *schedule):
        return replayed(MODES, list(schedule))

    def test_each_kind_of_move(self):
        state = begin_state(MODES)
        for event, behind in (
            ((0, 0), (((0, (3,)), (0, (6,))), (0,))),
            ((0, 1), (((1, (5,)), (0, (6,))), (0,))),
            ((0, 2), (((1, (4, 6)), (0, (6,))), (0,))),
            ((0, 5), (((1, (4, 8)), (0, (6,))), (0,))),
            ((0, 6), (((1, (4, 7)), (0, (6,))), (0,))),
            ((1, 7), (((1, (4, 7)), (0, (9,))), (0,))),
            ((0, BACK), (((1, (4,)), (0, (9,))), (0,))),
            ((1, 8), (((1, (4,)), (0, (7, 6))), (0,))),
            ((0, 3), (((1, (2,)), (0, (7, 6))), (None,))),
            ((0, 4), (((1, (1,)), (0, (7, 6))), (None,))),
        ):
            self.assertIn(event, events(MODES, state))
            state = done(MODES, state, event)
            self.same(state, behind)
            self.is_true(is_state(MODES, state))

    def test_modes_let_or_bar(self):
        self.same(events(MODES, begin_state(MODES)), [(0, 0), (1, 7)])
        self.same(events(MODES, self.behind((0, 0), (0, 1), (0, 2))), [(0, 5), (1, 7)])

    def test_touching_writing_marking_claiming(self):
        program = Program(0, 1, 2, [(("touch", 0), ("write", 0), ("mark", 9), ("claim", 1), SKIP)], [0])
        state = begin_state(program)
        for number, place in enumerate([2, 3, 4, 5, 1]):
            self.same(events(program, state), [(0, number)])
            state = done(program, state, (0, number))
            self.same(state, (((0, (place,)),), ()))
        self.same(events(program, state), [])

    def test_sorted(self):
        program = Program(0, 0, 1, [(("either", (SKIP,), (SKIP,)),), (SKIP,)], [0, 1, 0])
        self.same(events(program, begin_state(program)), [(0, 0), (0, 2), (1, 4), (2, 0), (2, 2)])

    def test_a_lock_that_has_an_owner(self):
        state = replayed(CROSS, [(0, 0)])
        self.same(state[1], (0, None))
        self.same(events(CROSS, state), [(0, 1), (1, 5)])
        state = replayed(CROSS, [(0, 0), (0, 1)])
        self.same(state[1], (0, 0))
        self.same(events(CROSS, state), [(0, 2)])
        self.same(replayed(CROSS, [(0, 0), (0, 1), (0, 2), (0, 3)])[1], (0, None))
        self.same(replayed(CROSS, [(1, 5), (1, 6)])[1], (1, 1))

    def test_a_lock_wanted_by_its_own_owner(self):
        program = Program(1, 0, 1, [(("hold", 0, (HOLD,)),)], [0, 0])
        state = replayed(program, [(0, 0)])
        self.same(state, (((0, (2,)), (0, (0,))), (0,)))
        self.same(events(program, state), [])
        self.is_true(is_still(program, state))
        self.fails(InvalidEvent, {"value": (0, 1)}, done, program, state, (0, 1))

    def test_back(self):
        self.same(events(MODES, self.behind((0, 0), (0, 1), (0, 2), (0, 5), (0, 6))), [(0, BACK), (1, 7)])
        alone = (((0, (1,)), (1, (7,))), (None,))
        self.is_true(is_state(MODES, alone))
        self.same(events(MODES, alone), [])
        self.fails(InvalidEvent, {"value": (1, BACK)}, done, MODES, alone, (1, BACK))
        self.fails(InvalidEvent, {"value": (0, BACK)}, done, MODES, begin_state(MODES), (0, BACK))

    def test_stacks_may_be_deep(self):
        state = replayed(MODES, [(1, 7), (1, 8)] * 100)
        self.same(state[0][1], (0, (7,) * 100 + (6,)))
        self.is_true(is_state(MODES, state))
        self.same(events(MODES, state), [(0, 0), (1, 7)])

    def test_no_events(self):
        state = begin_state(MODES)
        for value in (*STRANGE, (0,), (0, 0, 0), [0, 0], (0, False), (False, 0), (0, "0"), (0, 5), (1, 0), (2, 0), (0, -1),
                      (-1, 0), (0, BACK), (0, BACK + 1), (0, 10 ** 29), {0: 0}, ((0, 0),)):
            self.fails(InvalidEvent, {"value": value}, done, MODES, state, value)

    def test_nothing_passed_changes(self):
        schedule = [(0, 0), (0, 1)]
        replayed(MODES, schedule)
        self.same(schedule, [(0, 0), (0, 1)])
        events(MODES, begin_state(MODES)).clear()
        self.same(events(MODES, begin_state(MODES)), [(0, 0), (1, 7)])


class StateTest(Case):
    def test_all_of_two_threads(self):
        """A lock is held just where its hold is; whose it is must be told, and by a count."""
        rows = {0: [], 1: [], 2: [0], 3: [0], 4: [0, 1], 5: [0, 1]}
        rows.update({6: [], 7: [], 8: [1], 9: [1], 10: [1, 0], 11: [1, 0]})
        many = 0
        for one, other in itertools.product(range(12), range(12)):
            for owners in itertools.product((None, 0, 1, True, False), repeat=2):
                state = (((0, (one,)), (0, (other,))), owners)
                held = rows[one] + rows[other]
                expected = one < 6 <= other and len(held) == len(set(held))
                for lock, owner in enumerate(owners):
                    right = 0 if lock in rows[one] else 1 if lock in rows[other] else None
                    expected = expected and owner == right and not isinstance(owner, bool)
                self.assertIs(is_state(CROSS, state), expected)
                many += expected
        self.same(many, 12 + 4 + 4 + 4)

    def test_stacks(self):
        def standing(*stack):
            owner = 0 if 4 in stack else None
            return (((0, stack), (0, (6,))), (owner,))

        for stack in ((0,), (1,), (2,), (4,), (4, 6), (4, 7), (4, 8), (4, 9), (4, 7, 6), (4, 7, 7, 7, 8)):
            self.is_true(is_state(MODES, standing(*stack)))
        for stack in ((), (6,), (7,), (0, 6), (2, 6), (1, 6), (6, 4), (4, 0), (4, 1), (4, 4), (4, 6, 6), (4, 8, 6), (4, 10),
                      (10,), (4, -1), (4, True), (4, None), (4, "6"), (4, (6,)), (4, 10 ** 29)):
            self.is_false(is_state(MODES, standing(*stack)))

    def test_a_place_behind_two_calls(self):
        program = Program(0, 0, 1, [(("either", (("call", 1),), (("call", 2),)),), (SKIP,), (SKIP,), (("call", 3),)], [0])
        places = Flow(program).places
        self.same(places, 10)
        for inner in range(places):
            self.assertIs(is_state(program, (((0, (1, inner)),), ())), 4 <= inner <= 7)

    def test_locks_of_all_places_of_a_stack(self):
        program = Program(3, 0, 1, [(("hold", 2, (("hold", 0, (("call", 1),)),)),), (("hold", 1, ()),)], [0, 0])
        state = replayed(program, [(0, 0), (0, 1), (0, 2), (0, 5)])
        self.same(state, (((0, (5, 8)), (0, (0,))), (0, 0, 0)))
        self.same([row_of(program, state, 0), row_of(program, state, 1)], [[2, 0, 1], []])
        self.is_false(is_state(program, (state[0], (0, None, 0))))
        twice = Program(1, 0, 1, [(("hold", 0, (("call", 0),)),)], [0])
        self.is_true(is_state(twice, (((0, (3, 0)),), (0,))))
        self.is_false(is_state(twice, (((0, (3, 2)),), (0,))))
        self.is_false(is_state(twice, (((0, (3, 3, 0)),), (0,))))

    def test_what_need_not_come(self):
        self.is_true(is_state(MODES, (((1, (0,)), (1, (9,))), (None,))))

    def test_modes(self):
        for mode in (0, 1):
            self.is_true(is_state(MODES, (((mode, (0,)), (0, (6,))), (None,))))
        for mode in (2, -1, True, False, None, "0", (), 10 ** 29):
            self.is_false(is_state(MODES, (((mode, (0,)), (0, (6,))), (None,))))
            self.is_false(is_state(MODES, (((0, (0,)), (mode, (6,))), (None,))))

    def test_values_that_are_nearly_states(self):
        good = (((0, (0,)), (0, (6,))), (None, None))
        self.is_true(is_state(CROSS, good))
        for value in (
            *STRANGE, (), good[0], list(good), (list(good[0]), good[1]), (good[0], list(good[1])), (good[0], ()),
            (good[0], (None,)), (good[0], (None, None, None)), (good[0][:1], good[1]), (good[0] * 2, good[1]),
            (good[0], good[1], ()), (good[0],), (((0, [0]), (0, (6,))), good[1]), (([0, (0,)], (0, (6,))), good[1]),
            (((0, (0,), 0), (0, (6,))), good[1]), (((0,), (0, (6,))), good[1]), (((0, 0), (0, (6,))), good[1]),
            (((0, (6,)), (0, (0,))), good[1]), (good[0], (None, 0)), (good[0], (0, None)), (good[0], (None, 2)),
            (good[0], (None, "0")), (good[0], (None, False)), (((0, (False,)), (0, (6,))), good[1]), (good[0], None),
            (None, good[1]), (((0, None), (0, (6,))), good[1]), (((0, ()), (0, (6,))), good[1]), ({}, good[1]),
            (((0, (2,)), (0, (6,))), (None, None)), (((0, (2,)), (0, (6,))), (1, None)), (((0, (2,)), (0, (6,))), (False, None)),
            (((0, (0,)), (0, (8,))), (None, True)),
        ):
            self.is_false(is_state(CROSS, value))
            for action, behind in ((events, ()), (is_still, ()), (done, (None,)), (has_ended, (None,)), (stands_at, (9,)),
                                   (row_of, (True,))):
                self.fails(InvalidState, {"value": value}, action, CROSS, value, *behind)
        self.is_true(is_state(CROSS, (((0, (2,)), (0, (6,))), (0, None))))
        self.is_true(is_state(CROSS, (((0, (0,)), (0, (8,))), (None, 1))))

    def test_no_locks(self):
        program = Program(0, 0, 1, [()], [0])
        self.is_true(is_state(program, (((0, (1,)),), ())))
        self.is_false(is_state(program, (((0, (1,)),), (None,))))


class ScheduleTest(Case):
    LOOP = Program(0, 0, 1, [(("loop", (SKIP,)),)], [0])

    def test_replayed(self):
        self.same(replayed(CROSS, []), begin_state(CROSS))
        self.same(replayed(CROSS, ()), begin_state(CROSS))
        self.same(replayed(CROSS, ((0, 0), (1, 5))), (((0, (2,)), (0, (8,))), (0, 1)))
        self.same(replayed(CROSS, [(0, 0), (0, 1), (0, 2), (0, 3), (0, 4), (1, 5)]), (((0, (1,)), (0, (8,))), (None, 1)))

    def test_the_first_one_that_cannot_be_done(self):
        for schedule, position in (
            ([(0, 1)], 0), ([None], 0), ([(0, 0), (1, 5), (0, 1), None], 2), ([(0, 0), (0, 0)], 1), ([(0, 0), [0, 1]], 1),
            ([(0, 0), (0, True)], 1), ([(0, 0), (1, 5), (1, 6)], 2), ([(0, 0), (0, 10)], 1), ([[], []], 0), ((0, 0), 0),
        ):
            self.fails(InvalidSchedule, {"position": position}, replayed, CROSS, schedule)
            self.is_false(is_schedule(CROSS, schedule))

    def test_no_lists(self):
        for value in (None, True, 0, "", "ab", b"", {}, {0: (0, 0)}, object()):
            self.fails(InvalidSchedule, {"position": None}, replayed, CROSS, value)
            self.is_false(is_schedule(CROSS, value))

    def test_400_events_and_401(self):
        most = [(0, 0)] + [(0, 1)] * 399
        self.same(replayed(self.LOOP, most), (((0, (2,)),), ()))
        self.is_true(is_schedule(self.LOOP, most))
        self.is_true(is_schedule(self.LOOP, tuple(most)))
        more = [*most, (0, 2)]
        self.fails(InvalidSchedule, {"position": None}, replayed, self.LOOP, more)
        self.is_false(is_schedule(self.LOOP, more))
        self.fails(InvalidSchedule, {"position": None}, replayed, self.LOOP, [None] * 401)
        self.fails(InvalidSchedule, {"position": 399}, replayed, self.LOOP, [*most[:399], (0, 0)])

    def test_is_schedule(self):
        self.is_true(is_schedule(CROSS, []))
        self.is_true(is_schedule(CROSS, [(1, 5), (1, 6), (1, 7)]))
        for value in STRANGE:
            self.assertIs(is_schedule(CROSS, value), value == [])


class StillTest(Case):
    def test_ended(self):
        state = replayed(CROSS, [(0, 0), (0, 1), (0, 2), (0, 3), (0, 4)])
        self.same([has_ended(CROSS, state, 0), has_ended(CROSS, state, 1)], [True, False])
        self.same([stands_at(CROSS, state, 0), stands_at(CROSS, state, 1)], [1, 6])
        deep = Program(0, 0, 1, [(("call", 1),), ()], [0, 1])
        state = replayed(deep, [(0, 0), (0, 1), (1, 1)])
        self.same(state, (((0, (1, 3)), (0, (3,))), ()))
        self.same([has_ended(deep, state, 0), has_ended(deep, state, 1)], [False, True])
        self.same([stands_at(deep, state, 0), stands_at(deep, state, 1)], [3, 3])
        again = Program(0, 0, 1, [(("call", 0),)], [0])
        self.is_false(has_ended(again, (((0, (1, 1)),), ()), 0))
        self.is_true(has_ended(again, (((0, (1,)),), ()), 0))

    def test_still(self):
        self.is_true(is_still(CROSS, replayed(CROSS, [(0, 0), (1, 5)])))
        self.is_false(is_still(CROSS, replayed(CROSS, [(0, 0)])))
        self.is_false(is_still(CROSS, begin_state(CROSS)))

    def test_all_ended_is_not_still(self):
        program = Program(0, 0, 1, [()], [0, 0])
        self.is_false(is_still(program, replayed(program, [(0, 0)])))
        self.is_false(is_still(program, replayed(program, [(0, 0), (1, 0)])))

    def test_one_ended_and_one_waiting(self):
        program = Program(1, 0, 1, [(), (("hold", 0, (HOLD,)),)], [0, 1])
        self.is_false(is_still(program, replayed(program, [(1, 1)])))
        self.is_true(is_still(program, replayed(program, [(1, 1), (0, 0)])))

    def test_a_way_out_beside_the_take(self):
        program = Program(1, 0, 1, [(("hold", 0, (("loop", (HOLD,)),)),)], [0])
        state = replayed(program, [(0, 0), (0, 1)])
        self.same(events(program, state), [(0, 5)])
        self.is_false(is_still(program, state))

    def test_back_can_be_done(self):
        program = Program(1, 0, 1, [(("hold", 0, (("call", 1),)),), (), (HOLD,)], [0, 2])
        state = replayed(program, [(0, 0), (0, 1), (0, 3)])
        self.same(events(program, state), [(0, 7)])
        self.is_false(is_still(program, state))

    def test_threads_are_checked(self):
        for value in (*STRANGE, 2):
            for action in (has_ended, stands_at, row_of):
                self.fails(InvalidThread, {"value": value}, action, CROSS, begin_state(CROSS), value)


class BlocksTest(Case):
    def test_blocks(self):
        body = (("hold", 2, (SKIP, ("either", (), (("hold", 0, (("loop", (("hold", 1, ()),)),)),)))), SKIP)
        program = Program(3, 0, 1, [body, (("hold", 1, (("call", 0),)), SKIP)], [0])
        moves = Flow(program).moves()
        takes = {lock: far for _, kind, lock, far in moves if kind == "take" and far < 14}
        self.same([blocks_at(program, takes[lock]) for lock in (2, 0, 1)], [[2], [2, 0], [2, 0, 1]])
        for near, kind, what, far in moves:
            ahead, behind = blocks_at(program, near), blocks_at(program, far)
            if kind == "take":
                ahead = [*ahead, what]
            elif kind == "give":
                behind = [*behind, what]
            self.same(ahead, behind)
        for procedure in (0, 1):
            self.same(blocks_at(program, Flow(program).begin_of(procedure)), [])
            self.same(blocks_at(program, Flow(program).end_of(procedure)), [])

    def test_places_are_checked(self):
        for value in (*STRANGE, 12):
            self.fails(InvalidPlace, {"value": value}, blocks_at, CROSS, value)

    def test_new_lists(self):
        blocks_at(CROSS, 4).clear()
        self.same(blocks_at(CROSS, 4), [0, 1])
        state = replayed(CROSS, [(0, 0)])
        row_of(CROSS, state, 0).append(1)
        self.same(row_of(CROSS, state, 0), [0])


class AllTest(Case):
    CALLS = (
        (begin_state, ()), (is_state, (None,)), (events, (None,)), (done, (None, None)), (replayed, (None,)),
        (is_schedule, (None,)), (has_ended, (None, None)), (stands_at, (None, None)), (row_of, (None, None)),
        (is_still, (None,)), (blocks_at, (None,)),
    )

    def test_no_program(self):
        for action, behind in self.CALLS:
            for value in (*STRANGE, Program):
                self.fails(InvalidProgram, {"value": value}, action, value, *behind)

    def test_too_many_places(self):
        for action, behind in self.CALLS:
            self.fails(TooMany, {"what": "places", "limit": 160}, action, WIDE, *behind)
        self.same(begin_state(Program(1, 0, 1, [(HOLD,) * 53], [0])), (((0, (0,)),), (None,)))

    def test_by_name(self):
        state = begin_state(program=CROSS)
        told = [
            is_state(value=state, program=CROSS), events(state=state, program=CROSS),
            done(event=(0, 0), state=state, program=CROSS), replayed(schedule=[], program=CROSS) == state,
            is_schedule(value=[], program=CROSS), has_ended(thread=0, state=state, program=CROSS),
            stands_at(thread=1, state=state, program=CROSS), row_of(thread=1, state=state, program=CROSS),
            is_still(state=state, program=CROSS), blocks_at(place=4, program=CROSS),
        ]
        self.same(told, [
            True, [(0, 0), (1, 5)], (((0, (2,)), (0, (6,))), (0, None)), True, True, False, 6, [], False, [0, 1],
        ])
