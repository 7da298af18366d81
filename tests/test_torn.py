"""Moves ahead of others, torn pairs and pulls [7b5] to [7b7]."""

import itertools
import random

from cutruns.callings import deepest, reached
from cutruns.errors import InvalidCell, InvalidMove, InvalidProgram, InvalidThread, InvalidTorn, TooMany
from cutruns.flows import Flow
from cutruns.machine import replayed
from cutruns.meetings import is_meeting
from cutruns.programs import Program, with_threads
from cutruns.statements import at_path, paths_of
from cutruns.torn import ahead_legs, can_be_ahead, is_torn, pulls, torn_legs, torn_pairs, torn_row
from tests.helper import STRANGE, Case, bent
from tests.plain import fewest_events, program_of_seed
from tests.test_ends import MANY as WORDS
from tests.test_races import WIDE

# Procedure 0: moves 0 take 0, 1 touch 0, 2 write 0, 3 give 0; procedure 1: 4 write 0; procedure 2: 5 touch 0, 6 write 0; BACK 7.
SAFE = Program(1, 1, 1, [(("hold", 0, (("touch", 0), ("write", 0))),), (("write", 0),), (("touch", 0), ("write", 0))], [0, 0, 1])
# Moves 0 take 0, 1 write 0, 2 take 1, 3 write 0, 4 touch 0, 5 give 1, 6 write 0, 7 give 0, 8 write 0; 9 write 0; 10 call 1; BACK 11.
WITHIN = Program(2, 2, 1, [
    (("hold", 0, (("write", 0), ("hold", 1, (("write", 0), ("touch", 0))), ("write", 0))), ("write", 0)),
    (("write", 0),),
    (("call", 1),),
], [0, 2])
WRITE, TOUCH = ("write", 0), ("touch", 0)


def held(*body):
    return ("hold", 0, body)


def plain_pulls(program, cell):
    """All pulls, with the blocks told by the paths of the statements."""
    flow, moves = Flow(program), []
    for procedure, body in enumerate(program.bodies()):
        for path in paths_of(program.shape(), body):
            statement = at_path(program.shape(), body, path)
            if statement in (("touch", cell), ("write", cell)):
                around = [path[:cut] for cut in range(1, len(path), 2) if at_path(program.shape(), body, path[:cut])[0] == "hold"]
                ban = flow.many_moves
                if around:
                    take, = [at for at in flow.moves_from(flow.place_ahead(procedure, around[-1])) if flow.moves()[at][1] == "take"]
                    # The place from which the give goes is made right behind that to which the take leads.
                    ban, = [at for at, move in enumerate(flow.moves()) if move[:2] == (flow.moves()[take][3] + 1, "give")]
                number, = [at for at in flow.moves_from(flow.place_ahead(procedure, path)) if flow.moves()[at][1] in ("touch", "write")]
                moves.append((number, statement[0] == "write", procedure, around[-1:], ban))
    found = []
    threads = range(len(program.threads()))
    for thread, other in itertools.permutations(threads, 2):
        for first, last, between in itertools.product(moves, repeat=3):
            if first[2:4] == last[2:4] and (first[1] or between[1]) and (between[1] or last[1]):
                if first[2] in reached(program, thread) and between[2] in reached(program, other):
                    found.append((thread, first[0], last[0], other, between[0], first[4]))
    return sorted(found)


class AheadTest(Case):
    def test_the_flow_is_as_told_above(self):
        self.same([move[1] for move in Flow(SAFE).moves()], ["take", "touch", "write", "give", "write", "touch", "write"])
        self.same([move[1] for move in Flow(WITHIN).moves()],
                  ["take", "write", "take", "write", "touch", "give", "write", "give", "write", "write", "call"])

    def test_moves(self):
        # The other thread writes behind the touch, but takes only behind the give.
        self.same([can_be_ahead(SAFE, 0, 1, 2, 4), can_be_ahead(SAFE, 0, 1, 1, 0), can_be_ahead(SAFE, 2, 4, 0, 3)], [True, True, True])
        self.same([[len(leg) for leg in ahead_legs(SAFE, 0, 1, other, far)] for other, far in ((2, 4), (1, 0))], [[2, 1], [2, 3]])
        self.same(ahead_legs(SAFE, 2, 4, 0, 0), [[(2, 4)], [(0, 0)]])
        self.same([can_be_ahead(SAFE, 0, 4, 2, 4), ahead_legs(SAFE, 0, 4, 2, 4)], [False, None])
        self.same([can_be_ahead(SAFE, 0, 7, 2, 4), can_be_ahead(WITHIN, 1, 11, 0, 0)], [False, True])
        # A take that is never given again comes behind all others alone.
        stuck = Program(1, 0, 1, [(held(("loop", (("hold", 0, ()),))),), (held(held()),)], [0, 1])
        takes = [number for number, move in enumerate(Flow(stuck).moves()) if move[1] == "take"]
        self.same([can_be_ahead(stuck, 0, takes[0], 1, takes[2]), can_be_ahead(stuck, 1, takes[2], 0, takes[0])], [True, False])

    def test_against_all_schedules(self):
        met = []
        for seed in range(250):
            told = random.Random(seed)
            program = program_of_seed(told, told.choice((2, 2, 3)), told.choice((4, 6)), 1)
            deep, many = deepest(program), Flow(program).many_moves + 1
            thread, other = told.sample(range(len(program.threads())), 2)
            move, far = told.randrange(many), told.randrange(many)
            row = [(((thread, "behind", move),), ()), (((other, "behind", far),), ())]
            fewest, whole = fewest_events(program, row, deep or 4, 4000)
            legs = ahead_legs(program, thread, move, other, far)
            self.same(can_be_ahead(program, thread, move, other, far), legs is not None)
            if legs is not None:
                self.is_true(is_meeting(program, row, legs))
                if deep is not None and fewest is not None:
                    self.same(sum([len(leg) for leg in legs]), fewest)
            elif whole:
                self.same(fewest, None)
            met.append((legs is not None, whole or fewest is not None))
        self.assertGreater(min([met.count((True, True)), met.count((False, True))]), 25)

    def test_which_error_comes_first(self):
        for action in (can_be_ahead, ahead_legs):
            for value in STRANGE:
                self.fails(InvalidProgram, {"value": value}, action, value, None, None, None, None)
                self.fails(InvalidThread, {"value": value}, action, SAFE, value, None, None, None)
                self.fails(InvalidMove, {"value": value}, action, SAFE, 0, value, None, None)
                self.fails(InvalidThread, {"value": value}, action, SAFE, 0, 7, value, None)
                self.fails(InvalidMove, {"value": value}, action, SAFE, 0, 7, 1, value)
            self.fails(InvalidThread, {"value": 3}, action, SAFE, 3, 8, 3, 8)
            self.fails(InvalidMove, {"value": 8}, action, SAFE, 2, 8, 2, 8)
            self.fails(InvalidThread, {"value": 2}, action, SAFE, 2, 7, 2, 8)
            self.fails(InvalidMove, {"value": 8}, action, SAFE, 2, 7, 1, 8)
            action(far=0, other=1, move=0, thread=0, program=SAFE)


class TornTest(Case):
    def test_rows(self):
        self.same(torn_row(SAFE, (0, 1, 2, 1, 0, 3)),
                  [(((0, "behind", 1),), ()), (((1, "behind", 0),), ((0, 3),)), (((0, "behind", 2),), ((0, 3),))])
        self.same(torn_row(SAFE, (2, 4, 4, 0, 7, None)), [(((2, "behind", 4),), ()), (((0, "behind", 7),), ()), (((2, "behind", 4),), ())])
        self.same(torn_row(torn=(2, 4, 4, 0, 0, 7), program=SAFE)[1], (((0, "behind", 0),), ((2, 7),)))

    def test_torn_pairs(self):
        for torn, length in (
            ((0, 1, 2, 2, 4, 3), 4), ((0, 1, 2, 2, 4, None), 4), ((0, 1, 2, 1, 2, 3), None), ((0, 1, 2, 1, 2, None), None),
            ((0, 1, 3, 1, 0, None), None), ((0, 3, 1, 1, 0, None), None), ((0, 1, 3, 2, 4, None), 5), ((0, 1, 3, 2, 4, 3), None),
            ((0, 1, 2, 2, 4, 2), None), ((0, 1, 2, 2, 4, 7), 4), ((2, 4, 4, 0, 1, 7), None),
        ):
            legs = torn_legs(SAFE, torn)
            self.same([is_torn(SAFE, torn), None if legs is None else sum([len(leg) for leg in legs])], [length is not None, length])
            if legs is not None:
                self.is_true(is_meeting(SAFE, torn_row(SAFE, torn), legs))

    def test_a_round_is_no_block(self):
        # Each time round another hold begins: without a ban the pair is torn there, with the give as the ban it isn't.
        round_about = Program(1, 1, 1, [(("loop", (held(TOUCH, WRITE),)),)], [0, 0])
        moves = [move[1] for move in Flow(round_about).moves()]
        first, last, give = moves.index("touch"), moves.index("write"), moves.index("give")
        self.same([is_torn(round_about, (0, first, last, 1, last, ban)) for ban in (None, give)], [True, False])
        self.same(torn_pairs(round_about, 0), [])

    def test_which_values_are_torn_pairs(self):
        torn = (0, 1, 2, 2, 4, 3)
        self.is_true(is_torn(value=torn, program=SAFE))
        for value in (*STRANGE, *bent(torn), (0, 1, 2, 0, 1, 3), (0, 1, 2, 0, 1, None), (3, 1, 2, 2, 4, 3), (0, 1, 2, 3, 4, 3), (0, 8, 2, 2, 4, 3),
                      (0, 1, 8, 2, 4, 3), (0, 1, 2, 2, 8, 3), (0, 1, 2, 2, 4, 8), (0, 1, 2, 2, 4), (0, 1, 2, 2, 4, 3, 3), (0, 1, 2, 2, 4, -1)):
            # A ban of None, too, is a torn pair.
            if value != (0, 1, 2, 2, 4, None):
                self.is_false(is_torn(SAFE, value))
                for action in (torn_row, torn_legs):
                    self.fails(InvalidTorn, {"value": value}, action, SAFE, value)

    def test_against_all_schedules(self):
        met = []
        for seed in range(350):
            told = random.Random(seed)
            program = program_of_seed(told, told.choice((2, 2, 3)), told.choice((4, 6)), 1)
            deep, found = deepest(program), plain_pulls(program, 0)
            many = Flow(program).many_moves + 1
            for torn in told.sample(found, min(2, len(found))) or [(1, *[told.randrange(many) for _ in range(2)], 0, told.randrange(many), None)]:
                row = torn_row(program, torn)
                fewest, whole = fewest_events(program, row, deep or 3, 6000)
                legs = torn_legs(program, torn)
                self.same(is_torn(program, torn), legs is not None)
                if legs is not None:
                    self.is_true(is_meeting(program, row, legs))
                    replayed(program, [event for leg in legs for event in leg])
                    if deep is not None and fewest is not None:
                        self.same(sum([len(leg) for leg in legs]), fewest)
                elif whole:
                    self.same(fewest, None)
                met.append((legs is not None, whole or fewest is not None))
        self.assertGreater(min([met.count((True, True)), met.count((False, True))]), 25)

    def test_which_error_comes_first(self):
        for action in (torn_row, torn_legs, is_torn):
            for value in STRANGE:
                self.fails(InvalidProgram, {"value": value}, action, value, None)


class PullsTest(Case):
    def test_blocks_and_bodies(self):
        told = pulls(with_threads(SAFE, [0, 1]), 0)
        self.same(told, sorted([(0, first, last, 1, 4, 3) for first in (1, 2) for last in (1, 2)] + [(1, 4, 4, 0, 1, 7), (1, 4, 4, 0, 2, 7)]))
        self.same(torn_pairs(with_threads(SAFE, [0, 1]), 0), [(0, 1, 2, 1, 4, 3)])
        self.same([torn_pairs(with_threads(SAFE, [0, 0]), 0), torn_pairs(with_threads(SAFE, [0, 2]), 0)],
                  [[], [(0, 1, 2, 1, 6, 3), (1, 5, 6, 0, 2, 7)]])
        self.same([pulls(with_threads(SAFE, [0]), 0), pulls(with_threads(WITHIN, [0, 0]), 1)], [[], []])

    def test_blocks_within_blocks_and_called_procedures(self):
        told = pulls(WITHIN, 0)
        of_first = sorted({torn[:3] + torn[5:] for torn in told if torn[0] == 0})
        blocks = (((1, 6), 7), ((3, 4), 5), ((8,), 11))
        self.same(of_first, sorted([(0, one, other, ban) for block, ban in blocks for one in block for other in block]))
        # The second thread comes to the procedure 1, which is one body, the first one doesn't.
        self.same(sorted({torn[4] for torn in told if torn[0] == 0}), [9])
        self.same([torn for torn in told if torn[0] == 1], [(1, 9, 9, 0, between, 11) for between in (1, 3, 4, 6, 8)])

    def test_touches_alone_pull_nothing(self):
        touching = Program(0, 1, 1, [(TOUCH, TOUCH), (TOUCH,), (WRITE, TOUCH)], [0, 1])
        self.same([pulls(touching, 0), pulls(touching, cell=0)], [[], []])
        self.same(pulls(with_threads(touching, [2, 1]), 0), [(0, 2 + 1, 2 + 1, 1, 2, 5), (1, 2, 2, 0, 3, 5)])

    def test_against_the_definition(self):
        many = 0
        for seed in range(300):
            told = random.Random(seed)
            program = program_of_seed(told, told.choice((1, 2, 3)), told.choice((6, 10, 14)), told.choice((1, 2)))
            for cell in range(program.cells):
                found = pulls(program, cell)
                self.same(found, plain_pulls(program, cell))
                many += len(found)
                if len(found) <= 12:
                    self.same(torn_pairs(program, cell), [torn for torn in found if is_torn(program, torn)])
        self.assertGreater(many, 500)

    def test_all_three_in_holds_of_one_lock(self):
        # Three moves in holds of one lock, the first and the last one in one hold, are no pair that comes.
        kept = Program(2, 1, 1, [(held(TOUCH, ("hold", 1, (TOUCH, WRITE)), WRITE),), (held(WRITE), ("hold", 1, (held(WRITE),)))], [0, 1])
        self.assertGreater(len(pulls(kept, 0)), 10)
        self.same(torn_pairs(kept, 0), [])

    def test_60_pulls_and_more(self):
        # There are always as many pulls with the first and the last one the same for both threads, so never 61.
        for first, other, many in (((WRITE,) * 3, (held(TOUCH),) * 5, 60), ((WRITE,) * 4, (held(WRITE),) * 3, 60),
                                   ((WRITE, WRITE, held(WRITE)), (held(WRITE), WRITE, held(TOUCH), TOUCH), None)):
            program = Program(1, 1, 1, [first, other], [0, 1])
            if many is not None:
                self.same(len(pulls(program, 0)), many)
                self.assertLess(len(torn_pairs(cell=0, program=program)), many)
        over = Program(1, 1, 1, [(WRITE,) * 3, (held(TOUCH),) * 5, (held(WRITE),)], [0, 1, 2])
        self.assertGreater(len(pulls(over, 0)), 60)
        self.fails(TooMany, {"what": "pulls", "limit": 60}, torn_pairs, over, 0)
        # That there are too many comes ahead of what the rows would tell.
        wide = Program(4, 1, 4, [WIDE.bodies()[0], (WRITE,) * 8], [0, 1])
        self.assertGreater(len(pulls(wide, 0)), 60)
        self.fails(TooMany, {"what": "pulls", "limit": 60}, torn_pairs, wide, 0)
        self.fails(TooMany, {"what": "withins", "limit": 20000}, torn_pairs, WIDE, 0)

    def test_which_error_comes_first(self):
        for action in (pulls, torn_pairs):
            for value in STRANGE:
                self.fails(InvalidProgram, {"value": value}, action, value, None)
                self.fails(InvalidCell, {"value": value}, action, SAFE, value)
            self.fails(InvalidCell, {"value": 1}, action, SAFE, 1)
            self.same(action(WITHIN, 1), [])
            action(WITHIN, 1).append(0)


class LimitsTest(Case):
    def test_withins_and_words(self):
        withins, words = {"what": "withins", "limit": 20000}, {"what": "words", "limit": 1500}
        write = Flow(WIDE).moves_from(Flow(WIDE).place_ahead(0, [0, 0, 32]))[0]
        for action in (can_be_ahead, ahead_legs):
            self.fails(TooMany, withins, action, WIDE, 0, write, 1, write)
        for action in (is_torn, torn_legs):
            self.fails(TooMany, withins, action, WIDE, (0, write, write, 1, write, None))
            end = Flow(WORDS).many_moves
            self.fails(TooMany, words, action, WORDS, (1, 10, end, 0, end, None))

    def test_400_events_and_more(self):
        bodies = [(*[("call", 1)] * 4, WRITE), (("call", 2),) * 14, (("skip",),) * 5, (WRITE,)]
        long = Program(0, 1, 1, bodies, [0, 3])
        last = Flow(long).moves().index((Flow(long).place_ahead(0, [4]), "write", 0, 1))
        other = Flow(long).moves_from(Flow(long).begin_of(3))[0]
        self.same([can_be_ahead(long, 1, other, 0, last), is_torn(long, (0, 0, last, 1, other, None))], [True, True])
        self.fails(TooMany, {"what": "events", "limit": 400}, ahead_legs, long, 1, other, 0, last)
        self.fails(TooMany, {"what": "events", "limit": 400}, torn_legs, long, (0, 0, last, 1, other, None))
