"""Waiting places, standing still, rings and their papers [8a1] to [8a4]."""

import itertools
import random

from cutruns.callings import deepest
from cutruns.errors import InvalidPlace, InvalidProgram, InvalidState, TooMany
from cutruns.flows import Flow
from cutruns.judges import first_lacking, is_closed
from cutruns.machine import Machine, begin_state, done, events, is_state, is_still, replayed
from cutruns.programs import Program, with_threads
from cutruns.stills import (
    is_moving_paper,
    is_ring,
    is_ringless_paper,
    moving_paper,
    ring_schedule,
    ringless_paper,
    still_schedule,
    waiting,
    waits_for,
)
from cutruns.tables import least_table
from tests.helper import STRANGE, Case, bent
from tests.plain import fewest_until, program_of_seed
from tests.test_races import SETS, WIDE, WORDS


def held(lock, *body):
    return ("hold", lock, body)


# 0 -take 0-> 2 -take 1-> 4 -step-> 5 -give-> 3 -give-> 1, and 6 -take 1-> 8 -take 0-> 10 the other way round.
FACING = Program(2, 0, 1, [(held(0, held(1)),), (held(1, held(0)),)], [0, 1])
ONE_WAY = Program(2, 0, 1, [(held(0, held(1)),), (("skip",),)], [0, 0, 1])
OWN = Program(1, 0, 1, [(held(0, ("call", 1)),), (held(0),)], [0, 1])
# Three locks, taken by three threads each with the next one.
ROUND = Program(3, 0, 1, [(held(0, held(1)),), (held(1, held(2)),), (held(2, held(0)),)], [0, 1, 2])
# A thread that never ends, and goes on whatever the others do.
FOREVER = (("loop", (("skip",),)), ("call", 2))
BUSY = Program(2, 0, 1, [(held(0, held(1)),), (held(1, held(0)),), FOREVER], [0, 1, 2])
# Where it stands beside the way out of a loop a take doesn't wait.
LOOP = Program(2, 0, 1, [(held(0, ("loop", (held(1),))),), (held(1, ("loop", (held(0),))),)], [0, 1])
MODES = Program(2, 0, 2, [
    (("either", (("set", 1),), ()), ("when", 0, (held(0, held(1)),), (held(1, held(0)),))),
], [0, 0])


def all_row(program):
    begins = [Flow(program).begin_of(home) for home in program.threads()]
    return [(tuple([(thread, "at", begin) for thread, begin in enumerate(begins)]), ())]


def plain_waiting(flow, state):
    """The lock for which each thread waits that does."""
    found = {}
    for thread, (_, stack) in enumerate(state[0]):
        moves = [flow.moves()[number] for number in flow.moves_from(stack[-1])]
        if moves and all([move[1] == "take" and move[2] == moves[0][2] for move in moves]) and state[1][moves[0][2]] is not None:
            found[thread] = moves[0][2]
    return found


def plain_rings(flow, state):
    """All rings of the state."""
    wants = plain_waiting(flow, state)
    found = []
    for many in range(1, len(wants) + 1):
        for ring in itertools.permutations(wants, many):
            if all([state[1][wants[one]] == other for one, other in zip(ring, [*ring[1:], ring[0]])]):
                found.append(list(ring))
    return found


def tangled(told):
    """A program whose procedures take one lock, and another one within it, in this way or that; the last one never ends.

    What comes of it comes with stacks of one place, too: the last procedure calls but itself, and takes nothing.
    """
    bodies = []
    for _ in range(3):
        ways = []
        for _ in range(told.choice((1, 2, 2))):
            one, other = told.sample(range(3), 2)
            inner = held(other) if told.random() < 0.8 else ("loop", (held(other, ("set", 1)),))
            more = (("when", 1, (held(told.randrange(3)),), ()),) if told.random() < 0.4 else ()
            ways.append((*[("skip",)] * told.randrange(3), held(one, *[("skip",)] * told.randrange(2), inner, *more)))
        bodies.append(ways[0] if len(ways) == 1 else (("either", *ways),))
    ends = (("skip",),) * told.randrange(1, 4)
    return Program(3, 0, 2, [*bodies, ends, (("loop", ()), ("call", 4))], [told.randrange(3), told.randrange(3), told.choice((0, 1, 2, 3, 4, 4))])


def with_calls(more):
    """Two threads that come to stand still behind 398 moves and so many more."""
    bodies = [(*[("call", 1)] * 4, *[("skip",)] * more, held(0, held(1))), (*[("call", 2)] * 13, *[("skip",)] * 6), (("skip",),) * 5,
              (held(1, held(0)),)]
    return Program(2, 0, 1, bodies, [0, 3])


class WaitingTest(Case):
    def test_the_flows_are_as_told_above(self):
        self.same(Flow(FACING).moves()[:6], [(0, "take", 0, 2), (2, "take", 1, 4), (4, "step", None, 5), (5, "give", 1, 3), (3, "give", 0, 1),
                                             (6, "take", 1, 8)])

    def test_places(self):
        self.same([waits_for(FACING, place) for place in range(12)],
                  [[0], None, [1], None, None, None, [1], None, [0], None, None, None])
        flow = Flow(LOOP)
        around = flow.place_ahead(0, [0, 0, 0, 0, 0])
        self.same([flow.moves()[number][1] for number in flow.moves_from(around)], ["take", "step"])
        self.same([waits_for(LOOP, around), waits_for(LOOP, 0), waits_for(LOOP, 1)], [None, [0], None])
        self.same([waits_for(MODES, place) for place in (0, 1)], [None, None])
        waits_for(FACING, 0).clear()
        self.same(waits_for(place=0, program=FACING), [0])

    def test_states(self):
        self.same([waiting(FACING, replayed(FACING, told)) for told in ([], [(0, 0)], [(1, 5)], [(1, 5), (0, 0)], [(0, 0), (0, 1)])],
                  [[], [], [], [(0, 1), (1, 0)], [(1, 1)]])
        # A thread that waits for its own lock, and one at the way out of a loop, which doesn't wait.
        self.same(waiting(OWN, replayed(OWN, [(0, 0), (0, 1)])), [(0, 0), (1, 0)])
        both = replayed(LOOP, [(0, 0), (0, 1), (1, 7), (1, 8)])
        self.same([waiting(LOOP, both), is_ring(LOOP, both, [0, 1])], [[], False])

    def test_which_error_comes_first(self):
        for value in STRANGE:
            self.fails(InvalidProgram, {"value": value}, waits_for, value, None)
            self.fails(InvalidPlace, {"value": value}, waits_for, FACING, value)
            for action, more in ((waiting, ()), (is_ring, (None,))):
                self.fails(InvalidProgram, {"value": value}, action, value, None, *more)
                self.fails(InvalidState, {"value": value}, action, FACING, value, *more)
            for action, more in ((still_schedule, ()), (moving_paper, ()), (ring_schedule, ()), (ringless_paper, ()),
                                 (is_moving_paper, (None,)), (is_ringless_paper, (None,))):
                self.fails(InvalidProgram, {"value": value}, action, value, *more)
        self.fails(InvalidPlace, {"value": 12}, waits_for, FACING, 12)
        for value in bent(begin_state(FACING)):
            if not is_state(FACING, value):
                self.fails(InvalidState, {"value": value}, waiting, FACING, value)


class RingTest(Case):
    def test_rings_of_one_two_and_three(self):
        stuck = replayed(FACING, [(0, 0), (1, 5)])
        for value in ([0, 1], [1, 0], (1, 0)):
            self.is_true(is_ring(FACING, stuck, value))
        for value in (*STRANGE, *bent([0, 1]), [0], [1], [0, 1, 0], [0, 0], [0, 2], [0, 1, 2], (), "01", {0: 1, 1: 0}, [[0, 1]]):
            self.is_false(is_ring(FACING, stuck, value))
        self.is_false(is_ring(FACING, begin_state(FACING), [0, 1]))
        own = replayed(OWN, [(0, 0), (0, 1)])
        self.same([is_ring(OWN, own, ring) for ring in ([0], [1], [0, 1], [1, 0])], [True, False, False, False])
        takes = [number for number, move in enumerate(Flow(ROUND).moves()) if move[1] == "take"][::2]
        three = replayed(ROUND, list(enumerate(takes)))
        self.same([is_ring(value=ring, state=three, program=ROUND) for ring in ([0, 1, 2], [1, 2, 0], (2, 0, 1), [0, 2, 1], [0, 1], [2, 1, 0])],
                  [True, True, True, False, False, False])

    def test_states_that_do_not_come(self):
        # A state of the program to which no schedule leads: a ring of it is told all the same.
        state = (((0, (2,)), (0, (8,)), (0, (1,))), (0, 1))
        program = Program(2, 0, 1, [(held(0, held(1)),), (held(1, held(0)),)], [0, 1, 0])
        self.is_true(is_ring(program, state, [0, 1]))

    def test_each_list_of_small_states(self):
        for seed in range(40):
            program = program_of_seed(random.Random(seed), 3, 6)
            state, told = begin_state(program), random.Random(seed)
            for _ in range(12):
                self.same(waiting(program, state), sorted(plain_waiting(Flow(program), state).items()))
                rings = plain_rings(Flow(program), state)
                for many in range(4):
                    for ring in itertools.product(range(3), repeat=many):
                        self.same(is_ring(program, state, list(ring)), list(ring) in rings)
                if events(program, state):
                    state = done(program, state, told.choice(events(program, state)))


class ComesTest(Case):
    def holds(self, program, still, ring):
        """The lengths of shortest schedules, None where none comes, and just then a paper."""
        schedule, told = still_schedule(program), ring_schedule(program)
        self.same([None if schedule is None else len(schedule), None if told is None else len(told[0])], [still, ring])
        if still is not None:
            self.is_true(is_still(program, replayed(program, schedule)))
        if ring is not None:
            self.same([told.__class__, told[0].__class__, told[1].__class__], [tuple, list, list])
            self.is_true(is_ring(program, replayed(program, told[0]), told[1]))
        for paper, judge, length in ((moving_paper(program), is_moving_paper, still), (ringless_paper(program), is_ringless_paper, ring)):
            self.same(paper is None, length is not None)
            table = least_table(program, all_row(program))
            self.same(judge(program, table), length is None)
            if paper is not None:
                self.same(paper, table)

    def test_some_programs(self):
        self.holds(FACING, 2, 2)
        self.holds(ONE_WAY, None, None)
        self.holds(with_threads(FACING, [0]), None, None)
        self.holds(with_threads(FACING, [0, 0, 0, 0]), None, None)
        # The thread that waits for itself, while another one ends or waits.
        self.holds(OWN, 2, 2)
        self.holds(with_threads(OWN, [0]), 2, 2)
        self.holds(with_threads(OWN, [1, 1]), None, None)
        # A ring without standing still: the third one never ends.
        self.holds(BUSY, None, 2)
        self.holds(with_threads(BUSY, [2]), None, None)
        self.holds(with_threads(BUSY, [0, 2, 1, 0]), None, 2)
        self.holds(LOOP, None, None)
        self.holds(MODES, 8, 8)
        self.holds(with_threads(MODES, [0]), None, None)

    def test_threads_that_end_or_wait_beside(self):
        # The third one ends, by two moves, or waits for what the ring holds.
        ended = Program(2, 0, 1, [*FACING.bodies(), (("skip",), ("skip",))], [0, 1, 2])
        self.holds(ended, 4, 2)
        self.holds(with_threads(ended, [0, 1, 2, 2]), 6, 2)
        self.holds(with_threads(FACING, [0, 1, 1]), 2, 2)
        self.holds(with_threads(FACING, [1, 0, 0, 1]), 2, 2)
        # It waits for a lock that nobody holds in the ring, so it must end: take and step and give.
        apart = Program(3, 0, 1, [*FACING.bodies(), (held(2),)], [2, 0, 1])
        self.holds(apart, 5, 2)
        # It takes a lock that the ring holds, but ends ahead of it.
        after = Program(2, 0, 1, [*FACING.bodies(), (held(0), ("skip",))], [2, 0, 1])
        self.holds(after, 2, 2)
        again = Program(2, 0, 1, [*FACING.bodies(), (("loop", (held(0),)),)], [0, 2, 1])
        self.holds(again, 4, 2)

    def test_rings_of_three(self):
        self.holds(ROUND, 3, 3)
        self.holds(with_threads(ROUND, [2, 0, 1, 0]), 3, 3)
        self.holds(with_threads(ROUND, [0, 1, 0, 1]), None, None)
        # A guard around two of them leaves no room for the ring.
        guarded = Program(4, 0, 1, [(held(3, held(0, held(1))),), (held(3, held(1, held(2))),), (held(2, held(0)),)], [0, 1, 2])
        self.holds(guarded, None, None)

    def test_papers_without_a_row(self):
        for program in (ONE_WAY, with_threads(FACING, [0]), with_threads(OWN, [1])):
            row = all_row(program)
            paper = moving_paper(program)
            for which, (thread, withins, standings) in enumerate(paper):
                for lists in ([(withins[:at] + withins[at + 1:], standings) for at in range(len(withins))]
                              + [(withins, standings[:at] + standings[at + 1:]) for at in range(len(standings))]):
                    bad = [*paper[:which], (thread, *lists), *paper[which + 1:]]
                    self.is_false(is_closed(program, row, bad))
                    self.same([is_moving_paper(program, bad), is_ringless_paper(program, bad)], [False, False])

    def test_papers_with_like_ones_in_another_sequence(self):
        told = random.Random(1)
        for program in (ONE_WAY, with_threads(MODES, [0])):
            paper = ringless_paper(program)
            other = tuple([(thread, tuple(told.sample(withins * 2, 2 * len(withins))), told.sample(standings, len(standings)))
                           for thread, withins, standings in paper])
            self.same([judge(program, other) for judge in (is_moving_paper, is_ringless_paper)], [True, True])

    def test_papers_of_other_programs_and_other_values(self):
        paper = moving_paper(ONE_WAY)
        for value in (*STRANGE, paper[:2], [*paper, paper[0]], paper[::-1], moving_paper(with_threads(ONE_WAY, [0, 1, 0])),
                      moving_paper(with_threads(ONE_WAY, [0])), [list(one) for one in paper]):
            self.same([is_moving_paper(ONE_WAY, value), is_ringless_paper(ONE_WAY, value)], [False, False])
        self.same([is_moving_paper(with_threads(ONE_WAY, [0, 1, 0]), paper), is_moving_paper(value=paper, program=ONE_WAY)], [False, True])
        self.same([is_moving_paper(BUSY, ringless_paper(ONE_WAY)), is_ringless_paper(value=paper, program=ONE_WAY)], [False, True])

    def test_tables_with_more_than_what_comes(self):
        # Closed tables with standings or throughs that never come show less.
        program = Program(2, 0, 1, [(held(0, held(1)),), (held(0), held(1, ("loop", ())))], [0, 1])
        row, paper = all_row(program), moving_paper(program)
        self.same([is_moving_paper(program, paper), is_ringless_paper(program, paper)], [True, True])
        waits = Flow(program).place_ahead(1, [0])
        more = closed_with(program, row, paper, 1, 2, (0, waits, 0, (("start", None, ()), ("take", 1, ()))))
        self.is_true(is_closed(program, row, more))
        self.same([is_moving_paper(program, more), is_ringless_paper(program, more)], [False, False])
        # The second one never ends; were it to, the first one would stand still with a lock of its own.
        alone = Program(2, 0, 1, [(held(0, held(0)),), (("loop", ()), ("call", 1))], [0, 1])
        paper = moving_paper(alone)
        self.same([is_moving_paper(alone, paper), is_ringless_paper(alone, paper), ringless_paper(alone)], [True, False, None])
        more = closed_with(alone, all_row(alone), paper, 1, 1, (1, 0, 0, Flow(alone).end_of(1), 0, 0, (("start", None, ()),)))
        self.same([is_closed(alone, all_row(alone), more), is_moving_paper(alone, more)], [True, False])

    def test_against_all_schedules(self):
        met = []
        for seed in range(260):
            told = random.Random(seed)
            program = program_of_seed(told, told.choice((1, 2, 2, 3)), told.choice((4, 6, 8)))
            deep = deepest(program)
            for comes, tells in (
                (lambda state: is_still(program, state), lambda: still_schedule(program)),
                (lambda state: len(plain_rings(Flow(program), state)) > 0, lambda: (ring_schedule(program) or [None])[0]),
            ):
                fewest, whole = fewest_until(program, deep or 4, 2500, comes)
                schedule = tells()
                if schedule is None:
                    self.same(fewest, None)
                else:
                    self.is_true(comes(replayed(program, schedule)))
                    if deep is not None and fewest is not None:
                        self.same(len(schedule), fewest)
                met.append((schedule is not None, whole or fewest is not None))
        self.assertGreater(min([met.count((True, True)), met.count((False, True))]), 50)

    def test_tangled_programs_against_all_schedules(self):
        met = []
        for seed in range(70):
            program = tangled(random.Random(seed))
            machine, flow = Machine(program), Flow(program)
            still, _ = fewest_until(program, 1, 50000, machine.stands_still)
            ring, _ = fewest_until(program, 1, 50000, lambda state: plain_rings(flow, state) != [])
            self.holds(program, still, ring)
            met.append((still is not None, ring is not None))
        self.assertGreater(min([met.count(told) for told in ((True, True), (False, True), (False, False))]), 3)

    def test_the_nearest_of_several_places(self):
        # Both ways wait for the lock 1 with the lock 0 held; the shorter one is told, whichever stands first.
        far, near = (("skip",), ("skip",), held(0, held(1))), (held(0, held(1)),)
        for ways in ((far, near), (near, far)):
            self.holds(Program(2, 0, 1, [(("either", *ways),), (held(1, held(0)),)], [0, 1]), 3, 3)

    def test_words_that_do_not_agree(self):
        # Each one holds what the other one wants, but has used it behind its own taking: neither can have come first.
        def used(one, other):
            return (held(one, ("loop", (held(other, ("set", 1)),)), ("when", 1, (held(other),), ())),)

        program = Program(2, 0, 2, [used(0, 1), used(1, 0)], [0, 1])
        self.holds(program, None, None)
        # One of them alone may have.
        self.holds(Program(2, 0, 2, [used(0, 1), (held(1, held(0)),)], [0, 1]), 8, 8)
        # The same with another thread that ends: what it takes on its way bars nothing.
        self.holds(Program(2, 0, 2, [used(0, 1), used(1, 0), (held(0), held(1))], [0, 1, 2]), None, None)

    def test_an_end_or_a_wait_whichever_is_nearer(self):
        # The third thread waits at once for what the ring holds, or ends by one move, or has far to go to either.
        for third, length in (((held(0),), 2), ((("skip",), held(0)), 3), ((("either", (held(0, *[("skip",)] * 5),), (("skip",),)),), 3),
                              ((("either", (*[("skip",)] * 5, held(1)), (("skip",), ("skip",))),), 5)):
            self.holds(Program(2, 0, 1, [*FACING.bodies(), third], [0, 1, 2]), length, 2)

    def test_just_one_of_schedule_and_paper(self):
        for seed in range(60):
            program = program_of_seed(random.Random(seed), 2, 6)
            for schedule, paper, judge in ((still_schedule(program), moving_paper(program), is_moving_paper),
                                           (ring_schedule(program), ringless_paper(program), is_ringless_paper)):
                self.same(schedule is None, paper is not None)
                self.same(judge(program, least_table(program, all_row(program))), schedule is None)
            if still_schedule(program) is not None:
                self.assertIsNotNone(ring_schedule(program))

    def test_copies_change_nothing_for_rings(self):
        for seed in range(40):
            program = program_of_seed(random.Random(seed), 1, 6)
            rings = [ring_schedule(with_threads(program, program.threads() * many)) is not None for many in (1, 2, 3, 4)]
            # Once as many copies as locks are there, more of them bring no ring.
            self.same(rings[program.locks - 1:], [rings[program.locks - 1]] * (5 - program.locks))
            self.same(sorted(rings), rings)

    def test_new_lists(self):
        still_schedule(FACING).clear()
        ring_schedule(FACING)[1].clear()
        moving_paper(ONE_WAY)[0][1].clear()
        self.same([len(still_schedule(program=FACING)), len(ring_schedule(program=FACING)[1])], [2, 2])
        self.is_true(is_moving_paper(ONE_WAY, ringless_paper(program=ONE_WAY)))
        self.is_true(is_moving_paper(ONE_WAY, moving_paper(program=ONE_WAY)))


def closed_with(program, row, table, which, part, one):
    """The table with one more tuple, and with all that is asked for then."""
    told = [[thread, list(withins), list(standings)] for thread, withins, standings in table]
    told[which][part].append(one)
    lacking = first_lacking(program, row, [tuple(row) for row in told])
    while lacking is not None:
        thread, more = lacking
        told[thread][1 if len(more) == 7 else 2].append(more)
        lacking = first_lacking(program, row, [tuple(row) for row in told])
    return [tuple(row) for row in told]


class LimitsTest(Case):
    TELLING = (still_schedule, moving_paper, ring_schedule, ringless_paper)

    def test_withins_and_words(self):
        for action in self.TELLING:
            self.fails(TooMany, {"what": "withins", "limit": 20000}, action, WIDE)
            self.fails(TooMany, {"what": "words", "limit": 1500}, action, WORDS)

    def test_one_thread_behind_the_other(self):
        # Withins are as many for each thread, so words of the first one come behind them.
        both = Program(4, 1, 4, [WIDE.bodies()[0], ()], [1])
        for action in self.TELLING:
            self.fails(TooMany, {"what": "withins", "limit": 20000}, action, both)
            self.fails(TooMany, {"what": "words", "limit": 1500}, action, with_threads(WORDS, [2, 0]))
        self.same([still_schedule(with_threads(WORDS, [2])), ring_schedule(with_threads(WORDS, [2, 2]))], [None, None])

    def test_standings(self):
        keep = ("either", (held(0, ("call", 0)),), (("either", (held(1, ("call", 0)),), (("call", 1),)),))
        uses = ("either", (held(2),), (held(3),))
        many = Program(4, 0, 4, [(("loop", (uses, SETS)), keep), (("skip",),) * 40], [0])
        for action in (moving_paper, ringless_paper):
            self.fails(TooMany, {"what": "standings", "limit": 20000}, action, many)
        # It comes to wait for its own lock: there is no paper, but that it would have too many standings is told first.
        self.same([len(still_schedule(many)), len(ring_schedule(many)[0])], [8, 8])

    def test_400_events_and_401(self):
        program = with_calls(2)
        for schedule in (still_schedule(program), ring_schedule(program)[0]):
            self.same([len(schedule), is_still(program, replayed(program, schedule))], [400, True])
        # Also where one thread alone has more.
        for more in (3, 4, 6):
            for action in (still_schedule, ring_schedule):
                self.fails(TooMany, {"what": "events", "limit": 400}, action, with_calls(more))
        # Those that end count, too.
        for more, skips in ((0, 2), (0, 3)):
            program = with_calls(more)
            program = Program(2, 0, 1, [*program.bodies(), (("skip",),) * skips], [0, 3, 4])
            self.same(len(ring_schedule(program)[0]), 398)
            if skips == 2:
                self.same(len(still_schedule(program)), 400)
            else:
                self.fails(TooMany, {"what": "events", "limit": 400}, still_schedule, program)
        for action in (moving_paper, ringless_paper):
            self.same(action(with_calls(3)), None)
