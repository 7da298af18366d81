"""Crowds [8a5]."""

import itertools
import random

from cutruns.crowds import crowd_of, is_crowd_ring, meet_in_crowd, ring_in_crowd
from cutruns.errors import InvalidKinds, InvalidPlaces, InvalidProgram, TooMany
from cutruns.flows import Flow
from cutruns.machine import is_schedule, is_still, replayed, stands_at
from cutruns.meetings import meeting_length
from cutruns.programs import Program, with_threads
from cutruns.rows import one_goal
from cutruns.stills import is_ring, ring_schedule
from tests.helper import STRANGE, Case, bent
from tests.plain import program_of_seed
from tests.test_ends import MANY
from tests.test_races import WIDE, WORDS
from tests.test_stills import FACING, ONE_WAY, OWN, ROUND, held, with_calls

TURNS = Program(2, 0, 1, [(("either", (held(0, held(1)),), (held(1, held(0)),)),)], [0])
# A ring needs each of the three ways to take the next lock.
THREE = Program(3, 0, 1, [(("either", (held(0, held(1)),), (("either", (held(1, held(2)),), (held(2, held(0)),)),)),)], [0])
FOUR = Program(4, 0, 1, [(held(at, held((at + 1) - 4 * (at == 3))),) for at in range(4)], [0, 1, 2, 3])


def nested(told):
    """A program whose procedures take one lock, and another one within it."""
    bodies = []
    for _ in range(3):
        one, other = told.sample(range(3), 2)
        ways = (held(one, *[("skip",)] * told.randrange(3), held(other)),)
        bodies.append(told.choice((ways, (("either", ways, (("call", told.randrange(3)),)),), (held(one, ("call", told.randrange(3))),))))
    return Program(3, 0, 1, bodies, [told.randrange(3) for _ in range(told.choice((1, 2, 3)))])


class CrowdTest(Case):
    def test_crowds(self):
        self.same([crowd_of(ROUND, kinds).threads() for kinds in ([0], [2, 2], (1, 0, 1, 2))], [[0], [2, 2], [1, 0, 1, 2]])
        self.is_true(crowd_of(kinds=[0, 1, 2], program=ROUND) == ROUND)
        # A kind is a thread, not a procedure.
        self.same(crowd_of(with_threads(ROUND, [2, 1]), [0, 0, 1]).threads(), [2, 2, 1])

    def test_rings(self):
        for program, copies, length in ((TURNS, 2, 4), (THREE, 3, 8), (FACING, 2, 2), (ROUND, 3, 3), (FOUR, 4, 4), (OWN, 1, 2),
                                        (with_threads(FACING, [1, 0, 0]), 2, 2)):
            kinds, schedule, ring = ring_in_crowd(program)
            crowd = crowd_of(program, kinds)
            self.same([len(kinds), len(schedule), sorted(ring)], [copies, length, list(range(copies))])
            self.is_true(is_ring(crowd, replayed(crowd, schedule), ring))
            self.is_true(is_crowd_ring(program, (kinds, schedule, ring)))
        for program in (ONE_WAY, with_threads(FACING, [0]), with_threads(OWN, [1]), with_threads(FOUR, [0, 1, 3]), Program(0, 0, 1, [()], [0])):
            self.same(ring_in_crowd(program), None)
        # No ring comes in the programs as they are.
        self.same([ring_schedule(TURNS), ring_schedule(THREE)], [None, None])
        self.same(ring_schedule(with_threads(THREE, [0, 0])), None)

    def test_the_fewest_copies_though_more_have_a_shorter_schedule(self):
        # Two copies of the one kind take long to their ring, three of the others are there at once.
        long = (*[("skip",)] * 6, ("either", (held(0, held(1)),), (held(1, held(0)),)))
        program = Program(3, 0, 1, [*ROUND.bodies(), long], [0, 1, 2, 3])
        kinds, schedule, _ = ring_in_crowd(program)
        self.same([kinds.__class__, len(kinds), 3 in kinds], [list, 2, True])
        self.same(len(schedule), 9)
        self.same(len(ring_schedule(program)[0]), 3)

    def test_against_all_crowds(self):
        met = []
        for seed in range(140):
            told = random.Random(seed)
            program = nested(told) if seed % 2 else program_of_seed(told, told.choice((1, 2)), told.choice((4, 6)))
            found, kinds = ring_in_crowd(program), range(len(program.threads()))
            for many in range(1, min(3, program.locks + 1) + 1):
                lengths = []
                for crowd in [crowd_of(program, list(one)) for one in itertools.combinations_with_replacement(kinds, many)]:
                    ring = ring_schedule(crowd)
                    if ring is not None:
                        lengths.append(len(ring[0]))
                        # A ring of fewer copies would have been found ahead.
                        self.same(len(ring[1]), many)
                if found is not None and len(found[0]) == many:
                    self.same(len(found[1]), min(lengths))
                    break
                self.same(lengths, [])
            if found is not None:
                self.is_true(is_crowd_ring(program, found))
            met.append(None if found is None else len(found[0]))
        self.assertGreater(min([met.count(many) for many in (None, 1, 2)]), 3)

    def test_further_copies_change_nothing(self):
        for seed in range(60):
            program = program_of_seed(random.Random(seed), 1, 6)
            if ring_in_crowd(program) is None:
                self.same([ring_schedule(with_threads(program, program.threads() * many)) for many in (2, 3, 4)], [None, None, None])

    def test_which_values_are_rings_of_crowds(self):
        takes = [number for number, move in enumerate(Flow(FACING).moves()) if move[1] == "take"]
        first, other = (0, takes[0]), (1, takes[2])
        value = ([0, 1], [first, other], [0, 1])
        self.is_true(is_crowd_ring(value=value, program=FACING))
        more = (0, 2 + 1)
        for good in ((( 0, 1), (other, first), (1, 0)), ([0, 1, 0], [first, other], [0, 1]), ([1, 0, 1, 1], [(1, takes[0]), (3, takes[2])], [3, 1]),
                     ([0, 1], [(0, 0), (0, 1), (0, 2), (0, 3), (0, 4), other], [0]), ([1, 0], [(0, takes[2]), (1, takes[0])], [0, 1])):
            ring = is_crowd_ring(FACING, good)
            self.same(ring, good[2] != [0])
        for bad in (*STRANGE, *bent(value), ([0], [first], [0]), ([0, 0], [first, other], [0, 1]), ([0, 1], [first], [0, 1]),
                    ([0, 1], [first, other, more], [0, 1]),
                    ([0, 1, 0, 0, 1], [first, other], [0, 1]), ([0, 2], [first, other], [0, 1]), ([], [], []), ([0, 1], [first, other], []),
                    ([0, 1], [first, other]), ([0, 1], [first, other], [0, 1], [])):
            self.is_false(is_crowd_ring(FACING, bad))
        # A schedule of any length, and a ring that has not all copies.
        long = [(2, number) for number in range(5)] + [first, other]
        self.is_true(is_crowd_ring(FACING, ([0, 1, 0], long, [1, 0])))
        self.is_false(is_crowd_ring(FACING, ([0, 1, 0], long, [1, 0, 2])))

    def test_meetings(self):
        flow = Flow(FACING)
        both = [(0, 2), (1, flow.place_ahead(1, [0, 0, 0]))]
        schedule = meet_in_crowd(FACING, both)
        self.same([sorted(schedule), meet_in_crowd(FACING, tuple(both)).__class__], [[(0, 0), (1, 5)], list])
        self.same(meet_in_crowd(FACING, [(0, 2), (0, 2)]), None)
        # Of one kind a place twice, in the sequence in which they stand.
        self.same(meet_in_crowd(places=[(1, 6), (1, 7), (0, 0)], program=FACING), [(1, number) for number in range(5, 10)])
        self.same(meet_in_crowd(FACING, [(1, 6), (1, 6), (1, 6), (0, 0)]), [])
        self.same(meet_in_crowd(FACING, [(0, 6)]), None)

    def test_meetings_against_rows(self):
        for seed in range(60):
            told = random.Random(seed)
            program = program_of_seed(told, told.choice((1, 2)), told.choice((4, 6)))
            flow = Flow(program)
            places = [(told.randrange(len(program.threads())), told.randrange(flow.places)) for _ in range(told.choice((1, 2, 2, 3)))]
            crowd = crowd_of(program, [kind for kind, _ in places])
            schedule = meet_in_crowd(program, places)
            length = meeting_length(crowd, one_goal(crowd, [(at, place) for at, (_, place) in enumerate(places)]))
            self.same(None if schedule is None else len(schedule), length)
            if schedule is not None:
                self.is_true(is_schedule(crowd, schedule))
                state = replayed(crowd, schedule)
                self.same([stands_at(crowd, state, at) for at in range(len(places))], [place for _, place in places])
                # Further copies change nothing.
                self.same(len(meet_in_crowd(program, places[:2])) <= length, True)

    def test_new_lists(self):
        for told in ring_in_crowd(TURNS):
            told.clear()
        kinds = [0, 0]
        crowd_of(TURNS, kinds)
        self.same([len(part) for part in ring_in_crowd(program=TURNS)], [2, 4, 2])
        crowd = crowd_of(TURNS, kinds)
        kinds.append(0)
        self.same(crowd.threads(), [0, 0])
        self.is_true(is_still(crowd, replayed(crowd, ring_in_crowd(TURNS)[1])))


class ErrorsTest(Case):
    def test_which_error_comes_first(self):
        for value in STRANGE:
            for action, more in ((crowd_of, (None,)), (ring_in_crowd, ()), (is_crowd_ring, (None,)), (meet_in_crowd, (None,))):
                self.fails(InvalidProgram, {"value": value}, action, value, *more)
            self.fails(InvalidKinds, {"value": value}, crowd_of, ROUND, value)
            self.fails(InvalidPlaces, {"value": value}, meet_in_crowd, ROUND, value)
        for value in (*bent([0, 1]), [], [3], [0, 1, 2, 3], [0] * 5, [0, -1], [True], {0: 0}):
            if value not in ([0], [0, 1], (0, 1)):
                self.fails(InvalidKinds, {"value": value}, crowd_of, ROUND, value)
        for value in (*bent([(0, 1)]), [(3, 0)], [(0, 99)], [(0, 0)] * 5, [], [(0, 0, 0)], [[0, 0]], [(0, True)]):
            self.fails(InvalidPlaces, {"value": value}, meet_in_crowd, ROUND, value)

    def test_limits(self):
        self.fails(TooMany, {"what": "withins", "limit": 20000}, ring_in_crowd, WIDE)
        for threads in ([0], [2, 0]):
            self.fails(TooMany, {"what": "words", "limit": 1500}, ring_in_crowd, with_threads(WORDS, threads))
        self.same(ring_in_crowd(with_threads(WORDS, [2])), None)
        self.same(len(ring_in_crowd(with_calls(2))[1]), 400)
        self.fails(TooMany, {"what": "events", "limit": 400}, ring_in_crowd, with_calls(3))

    def test_limits_of_meetings(self):
        # They are those of the row: no thread that isn't named counts.
        self.same(meet_in_crowd(WORDS, [(0, 0)]), [])
        place = Flow(WORDS).place_ahead(2, [0])
        self.fails(TooMany, {"what": "words", "limit": 1500}, meet_in_crowd, WORDS, [(0, place)])
        self.fails(TooMany, {"what": "withins", "limit": 20000}, meet_in_crowd, WIDE, [(1, 0)])
        self.same(meet_in_crowd(MANY, [(1, Flow(MANY).begin_of(1))]), [])
        program = with_calls(3)
        inner = Flow(program).place_ahead(0, [7, 0, 0])
        self.same(len(meet_in_crowd(program, [(0, inner)])), 400)
        self.fails(TooMany, {"what": "events", "limit": 400}, meet_in_crowd, program, [(0, inner), (1, Flow(program).place_ahead(3, [0, 0, 0]))])
