"""Races and broken claims [7b2] to [7b4]."""

import random

from cutruns.callings import deepest
from cutruns.errors import InvalidBroken, InvalidProgram, InvalidRace, TooMany
from cutruns.flows import Flow
from cutruns.machine import replayed
from cutruns.meetings import can_meet
from cutruns.programs import Program, with_threads
from cutruns.races import broken_claims, claim_schedule, has_race, is_broken, is_race, race_schedule, races
from tests.helper import STRANGE, Case, bent
from tests.plain import fewest_until, program_of_seed

BARE = Program(1, 2, 2, [(("set", 1), ("write", 0)), (("touch", 0), ("touch", 1))], [0, 0, 1])
# Moves 0 take 0, 1 write 0, 2 give 0, 3 write 0, and in the second procedure 4 take 0, 5 call 2, 6 give 0; 7 touch 0.
HALF = Program(1, 1, 1, [(("hold", 0, (("write", 0),)), ("write", 0)), (("hold", 0, (("call", 2),)),), (("touch", 0),)], [0, 1, 2])
CLAIMS = Program(0, 0, 3, [
    (("either", (("set", 1),), (("either", (("set", 2),), ()),)), ("claim", 1), ("when", 1, (("claim", 1),), (("claim", 1),))),
    (("claim", 0), ("set", 2), ("claim", 2)),
], [0, 1])
# A thread that goes as deep as it likes, and holds another lock on the way back each time.
AGAIN = Program(2, 1, 2, [(("either", (("hold", 0, (("call", 1),)),), (("claim", 1),)), ("write", 0)), (("set", 1), ("hold", 1, (("call", 0),)))],
                [0, 1])

HOLDS = ("either", (("hold", 0, ()),), (("either", (("hold", 1, ()),), (("either", (("hold", 2, ()),), (("hold", 3, ()),)),)),))
SETS = ("either", (("set", 0),), (("either", (("set", 1),), (("either", (("set", 2),), (("set", 3),)),)),))
SPLIT = ("either", (), ())
# Of each place there are 240 withins: one of each two modes, and each lot of used locks.
WIDE = Program(4, 1, 4, [(("loop", (HOLDS, SETS, *[SPLIT] * 30, ("write", 0), ("claim", 0))),)], [0, 0])
# It comes to its write with the locks 0, 1 and 2 held or not, in each sequence, and all others used or not in between: it
# has more than 1,500 words there.
WORDS = Program(4, 1, 2, [
    (("loop", (HOLDS,)), ("either", (("hold", 0, (("call", 0),)),), (("either", (("hold", 1, (("call", 0),)),), (("call", 1),)),))),
    (("either", (("hold", 2, (("call", 2),)),), (("call", 2),)),),
    (("write", 0), ("claim", 1)),
], [0, 0])
WITHINS, MANY = {"what": "withins", "limit": 20000}, {"what": "words", "limit": 1500}


def long_way(more):
    """A program of two threads whose write stands 400 moves and so many more behind the begin."""
    bodies = [(*[("call", 1)] * 4, *[("skip",)] * more, ("write", 0)), (("call", 2),) * 14, (("skip",),) * 5, (("touch", 0),)]
    return Program(0, 1, 1, bodies, [0, 3])


def plain_races(program):
    """All tuples that are races but for the schedules to them, by the words of the document alone."""
    moves, found = Flow(program).moves(), []
    touch = [(near, what, kind == "write") for near, kind, what, _ in moves if kind in ("touch", "write")]
    for thread in range(len(program.threads())):
        for other in range(thread + 1, len(program.threads())):
            for place, cell, writes in touch:
                for far, same, also in touch:
                    if cell == same and (writes or also):
                        found.append((thread, place, other, far, cell))
    return sorted(set(found))


def plain_claims(program):
    claims = [(near, what) for near, kind, what, _ in Flow(program).moves() if kind == "claim"]
    threads, modes = range(len(program.threads())), range(program.modes)
    return sorted({(thread, place, mode) for thread in threads for place, claimed in claims for mode in modes if claimed != mode})


def stand(goal):
    return lambda state: all([state[0][thread][1][-1] == place for thread, place in goal])


class RacesTest(Case):
    def test_the_flow_is_as_told_above(self):
        self.same([move[1:3] for move in Flow(HALF).moves()],
                  [("take", 0), ("write", 0), ("give", 0), ("write", 0), ("take", 0), ("call", 2), ("give", 0), ("touch", 0)])
        self.same([Flow(HALF).moves()[at][0] for at in (1, 3, 7)], [3, 2, 9])

    def test_races(self):
        self.same(races(BARE), [(0, 2, 1, 2, 0), (0, 2, 2, 3, 0), (1, 2, 2, 3, 0)])
        # One lock for both keeps them apart, but not from the writes beside it, nor from who is called without it.
        self.same(races(HALF), [(0, 2, 1, 9, 0), (0, 2, 2, 9, 0), (0, 3, 2, 9, 0)])
        self.same(races(with_threads(HALF, [0, 0])), [(0, 2, 1, 2, 0), (0, 2, 1, 3, 0), (0, 3, 1, 2, 0)])
        self.same(races(with_threads(HALF, [2, 2, 2, 2])), [])
        self.same([races(with_threads(HALF, [0])), races(Program(1, 0, 1, [()], [0, 0]))], [[], []])
        self.same([has_race(BARE), has_race(with_threads(HALF, [2, 2])), has_race(with_threads(HALF, [2, 0]))], [True, False, True])

    def test_recursion(self):
        self.same(races(AGAIN), [race for race in plain_races(AGAIN) if is_race(AGAIN, race)])
        self.same(races(AGAIN), [(0, 2, 1, 2, 0)])

    def test_which_values_are_races(self):
        race = (0, 2, 2, 3, 0)
        self.is_true(is_race(BARE, race))
        for value in (*STRANGE, *bent(race), (1, 2, 0, 2, 0), (0, 2, 0, 2, 0), (2, 3, 0, 2, 0), (0, 2, 1, 2, 1), (0, 0, 1, 2, 0),
                      (0, 2, 3, 3, 0), (0, 2, 2, 5, 0), (0, 2, 2, 3, 2), (0, 2, 1, 2), (0, 2, 1, 2, 0, 0), (0, 3, 1, 2, 0), (0, 3, 2, 3, 0),
                      (0, 5, 2, 4, 1), (0, 6, 1, 2, 0), (0, 2, 1, 6, 0), (-1, 2, 1, 2, 0), (False, 2, True, 2, False)):
            self.is_false(is_race(BARE, value))
            self.fails(InvalidRace, {"value": value}, race_schedule, BARE, value)
        self.is_false(is_race(HALF, (0, 3, 1, 9, 0)))
        self.fails(InvalidRace, {"value": (0, 3, 1, 9, 0)}, race_schedule, HALF, (0, 3, 1, 9, 0))

    def test_against_all_schedules(self):
        met = []
        for seed in range(150):
            told = random.Random(seed)
            program = program_of_seed(told, told.choice((2, 2, 3)), told.choice((4, 6, 8)), told.choice((1, 2)))
            deep, found = deepest(program), races(program)
            self.same(found, [race for race in plain_races(program) if is_race(program, race)])
            for race in told.sample(plain_races(program), min(4, len(plain_races(program)))):
                goal = [(race[0], race[1]), (race[2], race[3])]
                fewest, whole = fewest_until(program, deep or 4, 3000, stand(goal))
                self.is_true(can_meet(program, [(((race[0], "at", race[1]), (race[2], "at", race[3])), ())]) == (race in found))
                if race in found:
                    schedule = race_schedule(program, race)
                    self.is_true(stand(goal)(replayed(program, schedule)))
                    if deep is not None and whole or fewest is not None and deep is not None:
                        self.same(len(schedule), fewest)
                elif whole:
                    self.same(fewest, None)
                met.append((race in found, whole or fewest is not None))
        self.assertGreater(min([met.count((True, True)), met.count((False, True))]), 30)

    def test_other_threads_change_nothing(self):
        for seed in range(40):
            program = program_of_seed(random.Random(seed), 2, 8, 1)
            more = with_threads(program, [*program.threads(), *program.threads()])
            self.same(races(program), [race for race in races(more) if race[0] == 0 and race[2] == 1])
            # Copies race as those do of which they are copies.
            self.same([(0, race[1], 1, race[3], 0) for race in races(more) if (race[0], race[2]) == (2, 3)], races(program))

    def test_schedules(self):
        self.same(sorted(race_schedule(BARE, (0, 2, 1, 2, 0))), [(0, 0), (1, 0)])
        self.same(race_schedule(race=(0, 2, 2, 9, 0), program=HALF), [(0, 0), (0, 1), (0, 2)])
        races(BARE).clear()
        self.same([len(races(program=BARE)), is_race(value=(0, 2, 1, 2, 0), program=BARE)], [3, True])


class ClaimsTest(Case):
    def test_broken_claims(self):
        flow = Flow(CLAIMS)
        first, same, other = [flow.place_ahead(0, path) for path in ([1], [2, 0, 0], [2, 1, 0])]
        self.same(broken_claims(CLAIMS), [(0, first, 0), (0, first, 2), (0, other, 0), (0, other, 2)])
        for mode in range(3):
            self.same([is_broken(CLAIMS, (0, first, mode)), is_broken(CLAIMS, (0, same, mode))], [mode != 1, False])
        # The other thread claims the modes in which it stands.
        self.same(is_broken(CLAIMS, (1, flow.begin_of(1), 0)), False)
        # With the mode set, the thread goes on behind each call by taking a lock alone.
        self.same(broken_claims(AGAIN), [(0, 6, 0)])
        self.same([Flow(AGAIN).place_ahead(0, [0, 1, 0]), broken_claims(BARE)], [6, []])

    def test_schedules(self):
        first, other = Flow(CLAIMS).place_ahead(0, [1]), Flow(CLAIMS).place_ahead(0, [2, 1, 0])
        for broken, moves in (((0, first, 0), 3), ((0, first, 2), 3), ((0, other, 2), 5)):
            schedule = claim_schedule(CLAIMS, broken)
            thread, place, mode = broken
            state = replayed(CLAIMS, schedule)
            self.same([len(schedule), state[0][thread][0], state[0][thread][1][-1]], [moves, mode, place])
        self.same(claim_schedule(broken=(0, 6, 0), program=AGAIN), [(0, 4)])

    def test_which_values_break_a_claim(self):
        broken = broken_claims(CLAIMS)[0]
        self.is_true(is_broken(value=broken, program=CLAIMS))
        thread, place, _ = broken
        for value in (*STRANGE, *bent(broken), (thread, place, 1), (thread, 0, 2), (1, place, 0), (2, place, 0), (thread, place, 3),
                      (thread, 99, 0), (thread, place), (thread, place, 0, 0), (thread, (place, 0)), (False, place, 0)):
            self.is_false(is_broken(CLAIMS, value))
            self.fails(InvalidBroken, {"value": value}, claim_schedule, CLAIMS, value)

    def test_against_all_schedules(self):
        met = []
        for seed in range(300):
            told = random.Random(seed)
            program = program_of_seed(told, told.choice((1, 2)), told.choice((4, 6, 8)), 1)
            deep, found = deepest(program), broken_claims(program)
            for broken in plain_claims(program):
                thread, place, mode = broken
                fewest, whole = fewest_until(program, deep or 4, 3000, lambda state: (state[0][thread][0], state[0][thread][1][-1]) == (mode, place))
                self.same(is_broken(program, broken), broken in found)
                if broken in found:
                    schedule = claim_schedule(program, broken)
                    self.same(replayed(program, schedule)[0][thread][0], mode)
                    if deep is not None and fewest is not None:
                        self.same(len(schedule), fewest)
                elif whole:
                    self.same(fewest, None)
                met.append((broken in found, whole or fewest is not None))
            self.assertLessEqual(set(found), set(plain_claims(program)))
        self.assertGreater(min([met.count((True, True)), met.count((False, True))]), 15)


class LimitsTest(Case):
    def test_withins(self):
        place = Flow(WIDE).place_ahead(0, [0, 0, 32])
        race, broken = (0, place, 1, place, 0), (1, Flow(WIDE).place_ahead(0, [0, 0, 33]), 3)
        for action, more in ((races, ()), (is_race, (race,)), (broken_claims, ()), (is_broken, (broken,)),
                             (race_schedule, (race,)), (claim_schedule, (broken,))):
            self.fails(TooMany, WITHINS, action, WIDE, *more)
        # Also where no two places touch one cell, and none claims a mode.
        quiet = Program(4, 0, 4, [(("loop", (HOLDS, SETS, *[SPLIT] * 31)),), (("skip",),)], [1])
        for action in (races, broken_claims):
            self.fails(TooMany, WITHINS, action, quiet)
        # Values that are none whatever comes are none.
        for value in (None, (0, place, 1, 0, 0), (1, place, 0, place, 0)):
            self.is_false(is_race(WIDE, value))
            self.is_false(is_broken(WIDE, value))
            self.fails(InvalidRace, {"value": value}, race_schedule, WIDE, value)
            self.fails(InvalidBroken, {"value": value}, claim_schedule, WIDE, value)

    def test_words_are_limited_where_schedules_are_told(self):
        place = Flow(WORDS).place_ahead(2, [0])
        race, broken = (0, place, 1, place, 0), (1, Flow(WORDS).place_ahead(2, [1]), 0)
        self.same([races(WORDS), is_race(WORDS, race)], [[race], True])
        self.same([broken_claims(WORDS), is_broken(WORDS, broken)], [[(0, *broken[1:]), broken], True])
        self.fails(TooMany, MANY, race_schedule, WORDS, race)
        self.fails(TooMany, MANY, claim_schedule, WORDS, broken)
        self.fails(InvalidRace, {"value": (0, 0, 1, place, 0)}, race_schedule, WORDS, (0, 0, 1, place, 0))

    def test_400_events_and_401(self):
        for more in (0, 1):
            program = long_way(more)
            place, begin = Flow(program).place_ahead(0, [4 + more]), Flow(program).begin_of(3)
            self.same(races(program), [(0, place, 1, begin, 0)])
            if more:
                self.fails(TooMany, {"what": "events", "limit": 400}, race_schedule, program, (0, place, 1, begin, 0))
            else:
                self.same(len(race_schedule(program, (0, place, 1, begin, 0))), 400)

    def test_which_error_comes_first(self):
        for action, more in ((races, ()), (broken_claims, ()), (is_race, (None,)), (is_broken, (None,)), (race_schedule, (None,)),
                             (claim_schedule, (None,))):
            for value in STRANGE:
                self.fails(InvalidProgram, {"value": value}, action, value, *more)
