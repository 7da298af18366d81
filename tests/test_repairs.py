"""Wrapping, unwrapping, exchanging, and repairs [8b1] to [8b4]."""

import itertools
import random

from cutruns.callings import deepest
from cutruns.errors import (
    InvalidLock,
    InvalidMost,
    InvalidPath,
    InvalidProcedure,
    InvalidProgram,
    InvalidWraps,
    NoSuchPath,
    NotHold,
    NotNested,
    TooDeep,
    TooMany,
)
from cutruns.flows import Flow
from cutruns.machine import is_schedule
from cutruns.programs import Program, with_threads
from cutruns.races import race_schedule, races
from cutruns.repairs import exchanged, is_helping, raceless, repaired, unwrapped, wrapped
from cutruns.stills import ring_schedule, ringless_paper
from cutruns.statements import paths_of
from tests.helper import STRANGE, Case, bent
from tests.plain import fewest_until, program_of_seed
from tests.test_crowds import nested
from tests.test_races import WIDE, WORDS, plain_races, stand
from tests.test_stills import FACING, held, plain_rings, with_calls

SKIP, WRITE, TOUCH = ("skip",), ("write", 0), ("touch", 0)
BARE = Program(1, 1, 1, [(WRITE,), (TOUCH,)], [0, 1])
SOME = Program(2, 1, 2, [
    (SKIP, ("either", (WRITE, ("loop", (TOUCH,))), (held(1, held(0, SKIP), SKIP),)), ("when", 1, (), (held(0),))),
    (held(0, held(1, TOUCH, SKIP)), ("call", 0)),
], [0, 1, 1])
CROSSED = Program(2, 1, 1, [(held(0, held(1, WRITE)),), (held(1, held(0, WRITE)),)], [0, 1])


def in_holds(many, *body):
    """The body within so many holds of unlike locks."""
    for lock in range(many):
        body = (held(lock % 4, *body),)
    return body


def plain_sound(program):
    """Whether no reached state has a race or a ring, None if that can't be told by looking through all states."""
    deep = deepest(program)
    if deep is None:
        return None
    goals = [[(race[0], race[1]), (race[2], race[3])] for race in plain_races(program)]
    fewest, whole = fewest_until(
        program, deep, 3000, lambda state: any([stand(goal)(state) for goal in goals]) or plain_rings(Flow(program), state) != [])
    return False if fewest is not None else True if whole else None


def with_statement(body, path, make):
    """The body with what is made of the statement at the path in its place."""
    at, rest = path[0], path[1:]
    if not rest:
        return (*body[:at], *make(body[at]), *body[at + 1:])
    first = [which for which, part in enumerate(body[at]) if isinstance(part, tuple)][0]
    told = list(body[at])
    told[first + rest[0]] = with_statement(told[first + rest[0]], rest[1:], make)
    return (*body[:at], tuple(told), *body[at + 1:])


def plain_repaired(program, wraps):
    """The program with the wraps done, an error if there is none."""
    bodies = program.bodies()
    for procedure, path, lock in sorted(wraps, key=lambda wrap: -len(wrap[1])):
        bodies[procedure] = with_statement(bodies[procedure], path, lambda one: [("hold", lock, (one,))])
    return Program(program.locks, program.cells, program.modes, bodies, program.threads())


class StatementsTest(Case):
    def test_wrapped(self):
        for procedure, path, lock in ((0, [0], 0), (0, (1, 0, 1), 1), (0, [1, 0, 1, 0, 0], 0), (1, [0, 0, 0, 0, 1], 0), (1, (1,), 1),
                                      (0, [2, 1, 0], 1)):
            made = wrapped(SOME, procedure, path, lock)
            plain = with_statement(SOME.bodies()[procedure], path, lambda one: [("hold", lock, (one,))])
            self.same(made.bodies()[procedure], plain)
            self.same([made.shape(), made.threads(), made.bodies()[1 - procedure]], [SOME.shape(), SOME.threads(), SOME.bodies()[1 - procedure]])
            # Unwrapped there again it is the program as it was.
            self.is_true(unwrapped(made, procedure, path) == SOME)

    def test_unwrapped(self):
        told = [unwrapped(SOME, *one) for one in ((1, [0]), (1, (0, 0, 0)), (0, [2, 1, 0]), (0, [1, 1, 0]))]
        self.same(told[0].bodies()[1], (held(1, TOUCH, SKIP), ("call", 0)))
        self.same(told[1].bodies()[1], (held(0, TOUCH, SKIP), ("call", 0)))
        self.same(told[2].bodies()[0][2], ("when", 1, (), ()))
        self.same(told[3].bodies()[0][1][2], (held(0, SKIP), SKIP))
        self.same(unwrapped(path=[0], procedure=0, program=Program(1, 0, 1, [(held(0),)], [0])).bodies(), [()])

    def test_exchanged(self):
        made = exchanged(SOME, 1, [0])
        self.same(made.bodies()[1], (held(1, held(0, TOUCH, SKIP)), ("call", 0)))
        self.is_true(exchanged(made, 1, (0,)) == SOME)
        both = Program(1, 0, 1, [(held(0, held(0, SKIP)),)], [0])
        self.is_true(exchanged(path=[0], procedure=0, program=both) == both)

    def test_what_can_not_be_unwrapped_or_exchanged(self):
        for path in ([0], [1], [1, 0, 0], [1, 0, 1], (2,)):
            self.fails(NotHold, {}, unwrapped, SOME, 0, path)
            self.fails(NotNested, {}, exchanged, SOME, 0, path)
        # A hold without a body, with a hold and something more in it, with something else, with two holds.
        for body in ((held(0),), (held(0, held(1), SKIP),), (held(0, SKIP, held(1)),), (held(0, SKIP),), (held(0, held(1), held(1)),)):
            self.fails(NotNested, {}, exchanged, Program(2, 0, 1, [body], [0]), 0, [0])
            unwrapped(Program(2, 0, 1, [body], [0]), 0, [0])

    def test_six_deep(self):
        deep = Program(4, 0, 1, [in_holds(4, SKIP)], [0])
        path = [0] * 9
        five = wrapped(deep, 0, path, 0)
        self.same(five.bodies()[0], in_holds(4, held(0, SKIP)))
        self.fails(TooDeep, {}, wrapped, five, 0, [0] * 11, 0)
        # Another one around all of them puts the innermost one too deep, too.
        self.fails(TooDeep, {}, wrapped, five, 0, [0], 0)
        self.fails(TooDeep, {}, wrapped, five, 0, [0] * 5, 3)
        self.same(len(paths_of(five.shape(), five.bodies()[0])), 6)

    def test_60_statements_and_61(self):
        skips = Program(1, 0, 1, [(SKIP,) * 59], [0])
        full = wrapped(skips, 0, [58], 0)
        self.same(full.bodies()[0][58], held(0, SKIP))
        self.fails(TooMany, {"what": "statements", "limit": 60}, wrapped, full, 0, [0], 0)
        self.same(len(unwrapped(full, 0, [58]).bodies()[0]), 59)
        both = Program(4, 0, 1, [in_holds(5, SKIP), (SKIP,) * 54], [0])
        self.fails(TooDeep, {}, wrapped, both, 0, [0] * 11, 0)
        self.fails(TooMany, {"what": "statements", "limit": 60}, wrapped, both, 1, [0], 0)

    def test_against_the_definition(self):
        for seed in range(80):
            told = random.Random(seed)
            program = program_of_seed(told, 2, 8, 1)
            for procedure, body in enumerate(program.bodies()):
                for path in paths_of(program.shape(), body)[:6]:
                    lock = told.randrange(program.locks)
                    try:
                        plain = with_statement(body, path, lambda one: [("hold", lock, (one,))])
                        self.same(wrapped(program, procedure, path, lock).bodies()[procedure], plain)
                    except TooDeep:
                        self.same(max([len(one) // 2 + 1 for one in paths_of(program.shape(), body) if one[:len(path)] == path]), 6)

    def test_which_error_comes_first(self):
        for action, more in ((wrapped, (None,)), (unwrapped, ()), (exchanged, ())):
            for value in STRANGE:
                self.fails(InvalidProgram, {"value": value}, action, value, None, None, *more)
                self.fails(InvalidProcedure, {"value": value}, action, SOME, value, None, *more)
                if value != [None]:
                    self.fails(InvalidPath, {"value": value}, action, SOME, 0, value, *more)
            for value in ([0, 0], [0, 0, True], [-1], ((0,),), [None]):
                self.fails(InvalidPath, {"value": value}, action, SOME, 0, value, *more)
            self.fails(InvalidProcedure, {"value": 2}, action, SOME, 2, [9], *more)
            for path in ([3], (0, 0, 0), [1, 2, 0], [1, 0, 2]):
                self.fails(NoSuchPath, {"path": path}, action, SOME, 0, path, *more)
        for value in (*STRANGE, 2):
            self.fails(InvalidLock, {"value": value}, wrapped, SOME, 0, [0], value)
            self.fails(NoSuchPath, {"path": [3]}, wrapped, SOME, 0, [3], value)
        self.fails(InvalidLock, {"value": 4}, wrapped, Program(4, 0, 1, [in_holds(5, SKIP)], [0]), 0, [0] * 11, 4)
        self.same(wrapped(lock=0, path=[0], procedure=0, program=BARE).bodies()[0], (held(0, WRITE),))


class RepairsTest(Case):
    def test_repaired(self):
        self.is_true(repaired(SOME, []) == SOME)
        self.is_true(repaired(SOME, ()) == SOME)
        wraps = [(0, (0,), 1), (0, (1,), 0), (0, (1, 0, 0), 1), (0, (1, 0, 1, 0, 0), 1), (1, (1,), 0)]
        made = repaired(SOME, wraps)
        self.same(made.bodies(), [
            (held(1, SKIP), held(0, ("either", (held(1, WRITE), ("loop", (held(1, TOUCH),))), (held(1, held(0, SKIP), SKIP),))), SOME.bodies()[0][2]),
            (SOME.bodies()[1][0], held(0, ("call", 0))),
        ])
        self.is_true(repaired(wraps=tuple(wraps), program=SOME) == plain_repaired(SOME, wraps))

    def test_whichever_wrap_comes_first(self):
        for seed in range(60):
            told = random.Random(seed)
            program = program_of_seed(told, 1, 6)
            paths = [(procedure, tuple(path)) for procedure, body in enumerate(program.bodies()) for path in paths_of(program.shape(), body)]
            wraps = sorted([(*one, told.randrange(program.locks)) for one in told.sample(paths, min(len(paths), told.randrange(5)))])
            deepest_one = max([len(wrap[1]) // 2 + 1 for wrap in wraps], default=0)
            if deepest_one <= 2:
                self.is_true(repaired(program, wraps) == plain_repaired(program, wraps))

    def test_which_values_are_repairs(self):
        good = [(0, (0,), 1), (0, (1, 0, 0), 0)]
        repaired(SOME, good)
        bad = [
            *STRANGE[:8], *STRANGE[9:], *[value for value in bent(good) if value not in (tuple(good), [])], good[::-1], [good[0], good[0]],
            [(0, (0,), 0), (0, (0,), 1)], [(0, (0,), 2)], [(2, (0,), 0)], [(0, (3,), 0)], [(0, [0], 0)], [(0, (0, 0), 0)], [(0, (0,))], [(0, (), 0)],
            [(0, (0,), 0, 0)], [[0, (0,), 0]], [(0, (0, 0, 0), 0)], [(1, (0,), 0), (0, (0,), 0)], {(0, (0,), 0): 0}, [(0, (0,), 0), None],
        ]
        for value in bad:
            for action in (repaired, is_helping):
                self.fails(InvalidWraps, {"value": value}, action, SOME, value)
        self.fails(InvalidWraps, {"value": [(0, (0,), 0)]}, repaired, Program(0, 1, 1, [(SKIP,)], [0]), [(0, (0,), 0)])

    def test_wraps_that_are_too_deep_or_too_many(self):
        deep = Program(4, 0, 1, [in_holds(4, SKIP)], [0])
        one, other = (0, (0,), 3), (0, (0,) * 9, 3)
        self.same([repaired(deep, [wrap]).bodies()[0] != deep.bodies()[0] for wrap in (one, other)], [True, True])
        # Each of them can be done, but not both.
        self.fails(InvalidWraps, {"value": [one, other]}, repaired, deep, [one, other])
        self.fails(InvalidWraps, {"value": (one, other)}, is_helping, deep, (one, other))
        skips = Program(1, 0, 1, [(SKIP,) * 30, (SKIP,) * 28], [0])
        wraps = [(0, (0,), 0), (0, (1,), 0), (1, (27,), 0)]
        repaired(skips, wraps[:2])
        self.fails(InvalidWraps, {"value": wraps}, repaired, skips, wraps)

    def test_which_error_comes_first(self):
        for value in STRANGE:
            for action in (repaired, is_helping, raceless):
                self.fails(InvalidProgram, {"value": value}, action, value, None)
            self.fails(InvalidMost, {"value": value}, raceless, BARE, value)
        for value in (3, 10 ** 7, -1):
            self.fails(InvalidMost, {"value": value}, raceless, Program(4, 1, 1, [(WRITE,) * 60], [0]), value)


class FewestTest(Case):
    def test_none_one_and_two(self):
        self.same([raceless(FACING, 0), raceless(BARE, 0)], [[], []])
        self.same([raceless(with_threads(BARE, [0]), most) for most in (0, 1, 2)], [[[]]] * 3)
        self.same(raceless(BARE, 2), [[(0, (0,), 0), (1, (0,), 0)]])
        # The same procedure for both: one wrap is enough, and there are no others beside it.
        self.same(raceless(with_threads(BARE, [0, 0]), 2), [[(0, (0,), 0)]])
        two = Program(2, 1, 1, [(WRITE, SKIP)], [0, 0])
        self.same(raceless(two, 1), [[(0, (0,), 0)], [(0, (0,), 1)]])
        self.same([is_helping(two, wraps) for wraps in ([], [(0, (1,), 0)], [(0, (0,), 0)], [(0, (0,), 0), (0, (1,), 1)])],
                  [False, False, True, True])
        self.same(is_helping(BARE, [(0, (0,), 0)]), False)

    def test_within_one_another(self):
        # The either is wrapped, or both of its touches; a wrap of the call keeps one lock around another one.
        program = Program(1, 1, 1, [(("either", (WRITE,), (TOUCH, TOUCH)),)], [0, 0])
        self.same(raceless(program, 2), [[(0, (0,), 0)]])
        self.same(is_helping(program, [(0, (0,), 0), (0, (0, 0, 0), 0)]), False)
        self.same(raceless(CROSSED, 2), [])
        self.same([is_helping(CROSSED, []), is_helping(exchanged(CROSSED, 1, [0]), [])], [False, True])
        # A guard around both helps against the ring.
        self.same(is_helping(Program(3, 1, 1, CROSSED.bodies(), [0, 1]), [(0, (0,), 2), (1, (0,), 2)]), True)
        self.same(raceless(Program(3, 1, 1, CROSSED.bodies(), [0, 1]), 2),
                  [[(0, (0,), 2), (1, (0,), 2)]])

    def test_lists_that_are_no_repairs(self):
        # The write is six deep, so neither it nor the statements around it can be wrapped.
        deep = (WRITE,)
        for _ in range(5):
            deep = (("either", deep, ()),)
        self.same(raceless(Program(1, 1, 1, [deep, (TOUCH,)], [0, 1]), 2), [])
        self.same(raceless(Program(1, 1, 1, [deep[0][1], (TOUCH,)], [0, 1]), 2), [[(0, (0,) * at, 0), (1, (0,), 0)] for at in (1, 3, 5, 7, 9)])

    def test_no_locks(self):
        self.same(raceless(Program(0, 1, 1, [(WRITE,)], [0, 0]), 2), [])
        self.same(raceless(most=2, program=Program(0, 1, 1, [(WRITE,) * 60], [0])), [[]])

    def test_300_tries_and_more(self):
        # 1 + 23 + 253 lists, and 1 + 24 + 276 with one statement more.
        quiet = Program(1, 0, 1, [(SKIP,) * 23], [0])
        self.same(raceless(quiet, 2), [[]])
        told = {"what": "tries", "limit": 300}
        self.fails(TooMany, told, raceless, Program(1, 0, 1, [(SKIP,) * 24], [0]), 2)
        self.same(raceless(Program(1, 0, 1, [(SKIP,) * 24], [0]), 1), [[]])
        self.same(raceless(Program(4, 0, 1, [(SKIP,) * 60], [0]), 1), [[]])
        self.fails(TooMany, told, raceless, Program(3, 0, 1, [(SKIP,) * 9], [0]), 2)
        self.same(raceless(Program(3, 0, 1, [(SKIP,) * 8], [0]), 2), [[]])
        # That there are too many tries comes ahead of what can't be told of the program.
        self.fails(TooMany, told, raceless, WIDE, 2)

    def test_as_many_tries_as_can_be(self):
        # No program has just 300; one statement more would make more of them.
        for locks, size, many in ((2, 12, 289), (4, 6, 265), (1, 23, 277)):
            self.same([1 + size * locks + size * (size - 1) // 2 * locks ** 2, many <= 300], [many, True])
            self.same(raceless(Program(locks, 0, 1, [(SKIP,) * (size - 1), (SKIP,)], [0]), 2), [[]])

    def test_against_all_schedules(self):
        met = []
        for seed in range(120):
            told = random.Random(seed)
            program = nested(told) if seed % 3 == 0 else program_of_seed(told, 2, 5, 1)
            paths = [(procedure, tuple(path)) for procedure, body in enumerate(program.bodies()) for path in paths_of(program.shape(), body)]
            for many in (0, 1, 2):
                wraps = sorted([(*one, told.randrange(program.locks)) for one in told.sample(paths, min(many, len(paths)))])
                plain = plain_sound(plain_repaired(program, wraps))
                if plain is not None:
                    self.same(is_helping(program, wraps), plain)
                    met.append(plain)
        self.assertGreater(min([met.count(True), met.count(False)]), 40)

    def test_the_fewest_of_all(self):
        met = {}
        for seed in range(60):
            told = random.Random(seed)
            program = program_of_seed(told, 2, 4, 1)
            paths = [(procedure, tuple(path)) for procedure, body in enumerate(program.bodies()) for path in paths_of(program.shape(), body)]
            wraps = [(*one, lock) for one in paths for lock in range(program.locks)]
            if deepest(program) is None or len(wraps) > 9:
                continue
            for most in (0, 1, 2):
                fewest = []
                for many in range(most + 1):
                    if not fewest:
                        lists = [list(one) for one in itertools.combinations(wraps, many) if len({wrap[:2] for wrap in one}) == many]
                        fewest = [one for one in lists if plain_sound(plain_repaired(program, one))]
                self.same(raceless(program, most), sorted(fewest))
                if most == 2:
                    met[len(fewest[0]) if fewest else None] = True
        self.assertLessEqual({0, 1, None}, set(met))

    def test_races_of_a_wrapped_program_are_races_of_it(self):
        for seed in range(60):
            told = random.Random(seed)
            program = program_of_seed(told, 2, 6, 1)
            for procedure, body in enumerate(program.bodies()):
                for path in paths_of(program.shape(), body)[:3]:
                    try:
                        made = wrapped(program, procedure, path, 0)
                    except TooDeep:
                        continue
                    # A place where a statement begins is where it begins in the program, by its path.
                    if races(program) == []:
                        self.same(races(made), [])
                    if is_helping(made, []):
                        self.assertIsNotNone(ringless_paper(made))
                    for race in races(made)[:1]:
                        self.is_true(is_schedule(made, race_schedule(made, race)))

    def test_unwrapping_brings_races_and_takes_rings_away(self):
        self.same([races(CROSSED), ring_schedule(CROSSED) is None], [[], False])
        made = unwrapped(CROSSED, 0, [0])
        self.same([races(made), ring_schedule(made)], [[], None])
        self.same(len(races(unwrapped(made, 0, [0]))), 1)

    def test_new_lists(self):
        raceless(BARE, 2)[0].clear()
        self.same(raceless(BARE, 2), [[(0, (0,), 0), (1, (0,), 0)]])
        wraps = [(0, (0,), 0)]
        self.same([is_helping(wraps=wraps, program=BARE), wraps], [False, [(0, (0,), 0)]])


class LimitsTest(Case):
    def test_withins_and_words(self):
        for action, more in ((is_helping, ([],)), (raceless, (0,))):
            self.fails(TooMany, {"what": "withins", "limit": 20000}, action, WIDE, *more)
            self.fails(TooMany, {"what": "words", "limit": 1500}, action, with_threads(WORDS, [0]), *more)
        self.fails(InvalidWraps, {"value": None}, is_helping, WIDE, None)
        self.fails(InvalidMost, {"value": None}, raceless, WIDE, None)

    def test_events(self):
        for more in (2, 3):
            program = with_calls(more)
            if more == 2:
                self.same([is_helping(program, []), raceless(program, 0)], [False, []])
            else:
                self.fails(TooMany, {"what": "events", "limit": 400}, is_helping, program, [])
                self.fails(TooMany, {"what": "events", "limit": 400}, raceless, program, 0)
        self.same(Flow(with_calls(3)).places < 160, True)
