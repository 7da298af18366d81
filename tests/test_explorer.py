"""All schedules within a depth [3b1] to [3b5]."""

from cutruns.callings import deepest
from cutruns.errors import InvalidDeep, InvalidGoal, InvalidProgram, TooMany
from cutruns.explorer import first_schedule, meets, states_of, stills_of
from cutruns.flows import Flow
from cutruns.machine import begin_state, done, events, has_ended, is_schedule, is_state, is_still, replayed, stands_at
from cutruns.programs import Program
from tests.helper import STRANGE, Case

SKIP = ("skip",)
HOLD = ("hold", 0, ())
CROSS = Program(2, 0, 1, [(("hold", 0, (("hold", 1, ()),)),), (("hold", 1, (("hold", 0, ()),)),)], [0, 1])
AGAIN = Program(0, 0, 1, [(("either", (SKIP,), (("call", 0),)),)], [0])
MIXED = Program(1, 0, 2, [
    (("hold", 0, (("call", 1),)), ("when", 1, (("set", 0),), (("loop", (SKIP,)),))),
    (("either", (("set", 1),), (("call", 1),)),),
], [0, 1])
WAITING = Program(1, 0, 1, [(("hold", 0, (("call", 1),)),), (("either", (HOLD,), (("call", 1), SKIP)),)], [0])
SMALL = (CROSS, AGAIN, MIXED, WAITING, Program(0, 0, 1, [()], [0, 0]))
WIDE = Program(1, 0, 1, [(HOLD,) * 54], [0])


def chains(*sizes):
    """A program of as many threads, whose places together make the product of the sizes states."""
    return Program(0, 0, 1, [(SKIP,) * (size - 1) for size in sizes], list(range(len(sizes))))


def is_within(state, deep):
    return all([len(stack) <= deep for _, stack in state[0]])


def closure(program, deep):
    """All reached states, by the plain machine alone."""
    found = [begin_state(program)]
    for state in found:
        for event in events(program, state):
            later = done(program, state, event)
            if is_within(later, deep) and later not in found:
                found.append(later)
    return found


def schedules_by_length(program, deep, most):
    """All schedules within the depth, shorter ones first, each length sorted, with their last states."""
    row = [([], begin_state(program))]
    for _ in range(most + 1):
        yield from row
        longer = []
        for schedule, state in row:
            for event in events(program, state):
                later = done(program, state, event)
                if is_within(later, deep):
                    longer.append(([*schedule, event], later))
        row = longer


class StatesTest(Case):
    def test_as_the_plain_machine_reaches_them(self):
        for program in SMALL:
            for deep in range(1, 5):
                states = states_of(program, deep)
                self.same(states, sorted(closure(program, deep), key=lambda state: state[0]))
                self.assertTrue(all([is_state(program, state) for state in states]))

    def test_depths(self):
        for deep in range(1, 7):
            # Within each frame but the last one the thread stands behind its call.
            self.same(len(states_of(AGAIN, deep)), 4 * deep)
            self.same(max([len(state[0][0][1]) for state in states_of(AGAIN, deep)]), deep)

    def test_one_that_only_a_deeper_stack_brings(self):
        program = Program(0, 0, 2, [(("call", 1), SKIP), (("set", 1),)], [0])
        self.same(states_of(program, 1), [(((0, (0,)),), ())])
        threads = [(0, (0,)), (0, (2, 3)), (1, (1,)), (1, (2,)), (1, (2, 4))]
        self.same(states_of(program, 2), [((thread,), ()) for thread in threads])
        self.same(states_of(program, 3), states_of(program, 2))

    def test_sorted_by_threads(self):
        states = states_of(CROSS, 1)
        threads = [state[0] for state in states]
        self.same(threads, sorted(threads))
        self.same(len(threads), len(set(threads)))

    def test_3000_states_and_more(self):
        self.same(len(states_of(chains(10, 12, 25), 1)), 3000)
        goal = [(0, 0)]
        for action, behind in ((states_of, (1,)), (stills_of, (1,)), (first_schedule, (goal, 1))):
            self.fails(TooMany, {"what": "states", "limit": 3000}, action, chains(3, 7, 11, 13), *behind)
        self.same(stills_of(chains(10, 12, 25), 1), [])
        self.same(first_schedule(chains(10, 12, 25), goal, 1), [])

    def test_new_lists(self):
        states_of(AGAIN, 1).clear()
        stills_of(CROSS, 1).clear()
        first_schedule(CROSS, [(0, 2)], 1).clear()
        told = [len(states_of(AGAIN, 1)), len(stills_of(CROSS, 1)), first_schedule(CROSS, [(0, 2)], 1)]
        self.same(told, [4, 1, [(0, 0)]])


class MeetsTest(Case):
    STATE = (((0, (4, 7)), (0, (6,)), (1, (1,))), (0,))

    def test_meets(self):
        for goal in ([(0, 7)], [(1, 6)], [(2, 1)], [(2, 1), (0, 7)], [(1, 6), (0, 7), (2, 1)], ((0, 7), (1, 6))):
            self.is_true(meets(self.STATE, goal))

    def test_meets_not(self):
        for goal in ([(0, 4)], [(0, 6)], [(1, 7)], [(2, 0)], [(0, 7), (1, 7)], [(0, 6), (1, 6)], ((0, 7), (2, 6))):
            self.is_false(meets(self.STATE, goal))

    def test_by_name(self):
        self.is_true(meets(goal=[(0, 7)], state=self.STATE))


class FirstTest(Case):
    def test_the_least_of_the_shortest(self):
        for program, deep, most in ((CROSS, 1, 6), (AGAIN, 3, 8), (MIXED, 2, 5), (WAITING, 3, 8)):
            places, threads = Flow(program).places, len(program.threads())
            goals = [[(thread, place)] for thread in range(threads) for place in range(places)]
            if threads == 2:
                goals.extend([[(1, place), (0, other)] for place in range(places) for other in range(places)])
            least = {}
            for schedule, state in schedules_by_length(program, deep, most):
                for at, goal in enumerate(goals):
                    if all([stands_at(program, state, thread) == place for thread, place in goal]):
                        least.setdefault(at, schedule)
            for at, goal in enumerate(goals):
                told = first_schedule(program, goal, deep)
                if at in least:
                    self.same(told, least[at])
                else:
                    self.assertTrue(told is None or len(told) > most)
                if told is not None:
                    self.is_true(meets(replayed(program, told), goal))

    def test_never_met(self):
        self.same(first_schedule(CROSS, [(0, 4), (1, 8)], 1), None)
        self.same(first_schedule(CROSS, [(0, 6)], 1), None)
        self.same(first_schedule(Program(0, 0, 2, [(("when", 1, (SKIP,), ()),)], [0]), [(0, 2)], 6), None)

    def test_met_by_the_first_state(self):
        self.same(first_schedule(CROSS, [(0, 0), (1, 6)], 1), [])
        self.same(first_schedule(CROSS, [(1, 6)], 6), [])

    def test_the_sequence_of_a_goal_is_nothing(self):
        self.same(first_schedule(CROSS, [(1, 8), (0, 2)], 1), [(0, 0), (1, 5)])
        self.same(first_schedule(CROSS, ((0, 2), (1, 8)), 1), [(0, 0), (1, 5)])

    def test_ties(self):
        program = Program(0, 0, 1, [(("either", (("mark", 0), SKIP), (("mark", 1), SKIP)), SKIP)], [0, 0])
        self.same(first_schedule(program, [(1, 2), (0, 2)], 1), [(0, 0), (0, 1), (0, 2), (1, 0), (1, 1), (1, 2)])

    def test_a_longer_way_that_keeps_within(self):
        program = Program(0, 0, 2, [
            (("either", (("call", 1),), (SKIP,) * 4), ("mark", 0)),
            (),
        ], [0])
        place = Flow(program).place_ahead(0, [1])
        self.same(len(first_schedule(program, [(0, place)], 1)), 5)
        self.same(len(first_schedule(program, [(0, place)], 2)), 4)

    def test_within_the_most_frames(self):
        program = Program(0, 0, 1, [(("call", 1),), (("call", 2),), (SKIP,)], [0])
        place = Flow(program).end_of(2)
        self.same(deepest(program), 3)
        self.same(first_schedule(program, [(0, place)], 2), None)
        self.same(first_schedule(program, [(0, place)], 3), [(0, 0), (0, 1), (0, 2)])
        self.same(first_schedule(program, [(0, place)], 6), [(0, 0), (0, 1), (0, 2)])

    def test_four_threads(self):
        program = Program(1, 0, 1, [(HOLD,)], [0] * 4)
        self.same(first_schedule(program, [(3, 2), (2, 1), (1, 0), (0, 0)], 1), [(2, 0), (2, 1), (2, 2), (3, 0)])
        self.same(first_schedule(program, [(3, 2), (0, 2)], 1), None)


class StillsTest(Case):
    def test_stills(self):
        for program in SMALL:
            for deep in (1, 2, 3):
                states = states_of(program, deep)
                threads = range(len(program.threads()))
                stuck = [state for state in states if events(program, state) == []]
                stuck = [state for state in stuck if not all([has_ended(program, state, thread) for thread in threads])]
                self.same(stills_of(program, deep), stuck)
                self.same(stuck, [state for state in states if is_still(program, state)])

    def test_a_lock_of_its_own(self):
        self.same(stills_of(WAITING, 1), [])
        self.same(stills_of(WAITING, 2), [(((0, (3, 6)),), (0,))])
        self.same(len(stills_of(WAITING, 4)), 3)

    def test_a_call_beyond_the_depth_can_be_done(self):
        program = Program(0, 0, 1, [(("call", 0),)], [0])
        for deep in range(1, 7):
            self.same(len(states_of(program, deep)), deep)
            self.same(stills_of(program, deep), [])

    def test_all_ended_is_none(self):
        self.same(stills_of(Program(0, 0, 1, [()], [0, 0]), 1), [])


class ErrorsTest(Case):
    NO_GOALS = (
        *STRANGE, (), [(0, 0)] * 2, [(0, 0), (0, 1)], [(0, 0), (1, 6), (0, 2)], [(2, 0)], [(0, 12)], [(0, -1)], [(-1, 0)],
        [(0, True)], [(False, 0)], [(0, None)], [(0,)], [(0, 0, 0)], [[0, 0]], [(0, 0), None], (0, 0), {(0, 0): 0},
        [(0, 0), (1, 0), (2, 0), (3, 0), (4, 0)], [("0", 0)], [(0, (0,))], [(0, 10 ** 29)],
    )

    def test_goals(self):
        for value in self.NO_GOALS:
            self.fails(InvalidGoal, {"value": value}, first_schedule, CROSS, value, 1)
            self.fails(InvalidGoal, {"value": value}, first_schedule, CROSS, value, 7)
        five = [(thread, 0) for thread in range(5)]
        self.fails(InvalidGoal, {"value": five}, first_schedule, Program(0, 0, 1, [()], [0] * 4), five, 1)

    def test_depths(self):
        for value in (*STRANGE, 0, 7, [1], "1"):
            self.fails(InvalidDeep, {"value": value}, states_of, CROSS, value)
            self.fails(InvalidDeep, {"value": value}, stills_of, CROSS, value)
            self.fails(InvalidDeep, {"value": value}, first_schedule, CROSS, [(0, 0)], value)
        for deep in (1, 6):
            self.same(len(states_of(CROSS, deep)), 23)

    def test_which_error_comes_first(self):
        many = chains(3, 7, 11, 13)
        for action, behind in ((states_of, (None,)), (stills_of, (None,)), (first_schedule, (None, None))):
            for value in (*STRANGE, Program):
                self.fails(InvalidProgram, {"value": value}, action, value, *behind)
            self.fails(TooMany, {"what": "places", "limit": 160}, action, WIDE, *behind)
        self.fails(InvalidDeep, {"value": 0}, states_of, many, 0)
        self.fails(InvalidDeep, {"value": 0}, stills_of, many, 0)
        self.fails(InvalidGoal, {"value": []}, first_schedule, many, [], 0)
        self.fails(InvalidDeep, {"value": 0}, first_schedule, many, [(0, 0)], 0)

    def test_nothing_passed_changes(self):
        goal = [(1, 8), (0, 2)]
        self.is_true(is_schedule(CROSS, first_schedule(CROSS, goal, 1)))
        self.same(goal, [(1, 8), (0, 2)])

    def test_by_name(self):
        self.same(len(states_of(deep=1, program=CROSS)), 23)
        self.same(len(stills_of(deep=1, program=CROSS)), 1)
        self.same(first_schedule(deep=1, goal=[(0, 2)], program=CROSS), [(0, 0)])
