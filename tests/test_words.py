"""Local runs and cut runs [4a2], words [4a3] to [4a5], pieces and what is put behind [4a6]."""

import itertools

from cutruns.errors import InvalidLeg, InvalidPiece, InvalidProgram, InvalidRun, InvalidThread, InvalidWord
from cutruns.flows import Flow
from cutruns.programs import Program
from cutruns.words import held_at, is_word, legs_of, state_of, then_word, word_of
from tests.helper import STRANGE, Case, bent
from tests.parts import REST, cut, give, start, take
from tests.plain import any_row, cuts_of, local_runs, plain_word, programs_and_rows

# 0 -take 0-> 2 -take 1-> 4 -mark-> 5 -give 1-> 3 -give 0-> 1.
NESTED = Program(2, 0, 1, [(("hold", 0, (("hold", 1, (("mark", 0),)),)),)], [0, 0])
# One hold behind the other: moves 0 take 0, 1 step, 2 give 0, 3 take 1, 4 step, 5 give 1, 6 take 0, 7 step, 8 give 0.
ROW = Program(2, 0, 1, [(("hold", 0, ()), ("hold", 1, ()), ("hold", 0, ()))], [0])
# It calls itself within the lock, which it then never gets: 0 take 0, 1 call 0, 2 give 0.
SELF = Program(1, 0, 2, [(("hold", 0, (("call", 0),)),)], [0])
ROUND = Program(0, 0, 1, [(("loop", (("skip",),)),)], [0])
FULL = Program(4, 0, 1, [()], [0])

# Words that are right, and pieces that are right but no words.
WORDS = (
    start(REST), start(cut(0), cut(0, 1, 2, 3), REST), start(take(0), take(1, 2, 3), REST, used=(0, 1)),
    start(take(0), cut(1), give(0, 0), take(1), take(0), REST), start(take(1), cut(), cut(), give(1), REST, used=(1,)),
    start(take(3), take(0), cut(1), give(0, 0), give(3, 0, 3), take(0), cut(2), give(0), take(0), REST),
)
PIECES = (
    start(), start(used=(0, 1, 2, 3)), start(take(0, 1)), start(give(0)), start(give(0, 0), give(1, 0, 1), used=(0,)),
    start(give(0), take(0)), start(cut(2)), start(take(0), cut(), give(0), give(1)), start(cut(), cut(), cut(), take(0)),
    start(REST, REST, cut(1)), start(take(2), REST, cut(1)), start(give(0), give(0)),
)
NEITHER = (
    (), (REST,), (take(0),), start(start()[0]), start(start()[0], REST), start(cut(), cut(), cut(), cut()),
    start(take(0), take(0)), start(take(0, 0)), start(take(0), take(1, 0)), start(take(0), REST, cut(0)),
    start(take(0), give(0)), start(take(0), give(1)), start(take(0), cut(), take(1), give(1)), start(take(0), cut(), give(1)),
    start(take(0), take(1), cut(), give(0)), start(take(0), take(1), cut(), give(1, 0)), start(take(0), cut(), cut(), take(0)),
    start(used=(1, 0)), start(used=(0, 0)), start(used=(4,)), start(take(4)), start(give(4)), start(("keep", 0, ())),
    (("start", 0, ()),), start(("cut", 0, ())), start(("take", None, ())), start(("give", None, ())), start(("take", 0)),
    start(("take", 0, (), ())), [("start", None, ())], start(["take", 0, ()]), start(take(0), give(2), REST), start(take(0), take(0, 1), REST),
)


class RunTest(Case):
    def test_the_flow_is_as_told_above(self):
        self.same([move[:3] for move in Flow(NESTED).moves()],
                  [(0, "take", 0), (2, "take", 1), (4, "mark", 0), (5, "give", 1), (3, "give", 0)])
        self.same([move[1:3] for move in Flow(ROW).moves()], [("take", 0), ("step", None), ("give", 0), ("take", 1),
                  ("step", None), ("give", 1), ("take", 0), ("step", None), ("give", 0)])
        self.same([move[1] for move in Flow(SELF).moves()], ["take", "call", "give"])

    def word(self, runs, word, program=NESTED):
        self.same(word_of(program, 0, runs), word)
        self.same(word_of(program, 0, tuple([tuple(leg) for leg in runs])), word)
        self.is_true(is_word(program, word))

    def test_uses(self):
        self.word([[]], start(REST))
        self.word([[0, 1, 2, 3, 4]], start(REST, used=(0, 1)))
        self.word([[0, 1, 2], [3, 4]], start(take(0), take(1), REST, give(1), give(0), REST))
        self.word([[0, 1, 2, 3], [4]], start(take(0, 1), REST, give(0), REST))
        self.word([[0], [1, 2, 3], [4]], start(take(0), cut(1), cut(), give(0), REST))
        self.word([[], [0, 1, 2, 3, 4], []], start(cut(0, 1), REST, REST))

    def test_a_giving_in_the_same_leg_and_in_a_later_one(self):
        self.word([[0, 1, 2, 3, 4, 5, 6, 7, 8]], start(REST, used=(0, 1)), ROW)
        self.word([[0, 1], [2, 3, 4, 5, 6, 7], [8]], start(take(0), REST, give(0, 1), take(0), REST, give(0), REST), ROW)
        self.word([[0, 1, 2, 3, 4], [5, 6], [7, 8]], start(take(1), REST, give(1), take(0), REST, give(0), REST, used=(0,)), ROW)
        self.word([[0, 1, 2], [3, 4, 5], [6, 7, 8]], start(cut(1), cut(0), REST, used=(0,)), ROW)
        self.word([[0, 1, 2, 3], [4], [5, 6, 7, 8]], start(take(1), REST, REST, give(1, 0), REST, used=(0,)), ROW)

    def test_states(self):
        self.same(state_of(NESTED, 1, [[]]), (0, (0,), ()))
        self.same(state_of(NESTED, 1, [[0, 1], [2]]), (0, (5,), (0, 1)))
        self.same(state_of(SELF, 0, [[0], [1]]), (0, (3, 0), (0,)))
        modes = Program(3, 0, 3, [(("hold", 2, (("set", 2), ("call", 1))),), (("hold", 0, (("hold", 1, (("skip",),)),)),)], [0])
        self.same(state_of(modes, 0, [[0, 1, 2, 4], [5]]), (2, (3, 9), (2, 0, 1)))
        self.same(state_of(modes, 0, [[0, 1, 2, 4, 5, 6, 7, 8], [9]]), (2, (3,), (2,)))

    def test_positions_of_what_cannot_be_done(self):
        for runs, position in (
            ([[1]], 0), ([[0, 0]], 1), ([[0, 1], [3]], 2), ([[0], [], [1, 2, 4, 3]], 3), ([[5]], 0), ([[0, 1, 2, 3, 4, 5]], 5),
            ([[0, 1], [2, 99], [88]], 3), ([[10 ** 29]], 0), ([[], [], [4]], 0),
        ):
            self.fails(InvalidRun, {"position": position}, word_of, NESTED, 0, runs)
            self.fails(InvalidRun, {"position": position}, state_of, NESTED, 1, runs)
        # A lock that it holds itself it never gets.
        self.fails(InvalidRun, {"position": 2}, word_of, SELF, 0, [[0, 1, 0]])
        self.fails(InvalidRun, {"position": 2}, word_of, SELF, 0, [[0, 1], [0]])

    def test_400_numbers_and_401(self):
        steps = [0, *[1, 1] * 199, 1]
        self.same(word_of(ROUND, 0, [steps]), start(REST))
        self.same(state_of(ROUND, 0, [steps[:1], steps[1:]]), (0, (2,), ()))
        for runs in ([[*steps, 1]], [[0], [0], steps], [[*steps, 7]]):
            self.fails(InvalidRun, {"position": None}, word_of, ROUND, 0, runs)

    def test_values_of_other_kinds(self):
        numbers = [[0, 1], [2, 3]]
        kinds = [value for value in bent(numbers) if "10000" not in repr(value)]
        for value in (*STRANGE, *kinds, [], (), [[]] * 4, [0, 1], {0: [0]}, "01", [[0], None]):
            if value is not object:
                self.fails(InvalidRun, {"position": None}, word_of, NESTED, 0, value)
                self.fails(InvalidRun, {"position": None}, state_of, NESTED, 0, value)

    def test_which_error_comes_first(self):
        for action in (word_of, state_of):
            for value in STRANGE:
                self.fails(InvalidProgram, {"value": value}, action, value, 9, None)
                self.fails(InvalidThread, {"value": value}, action, NESTED, value, None)
            self.fails(InvalidThread, {"value": 2}, action, NESTED, 2, [[0]])

    def test_by_name(self):
        runs = [[0], [1]]
        self.same(word_of(runs=runs, thread=0, program=NESTED), start(take(0), REST, take(1), REST))
        self.same(state_of(runs=runs, thread=0, program=NESTED), (0, (4,), (0, 1)))
        self.same(runs, [[0], [1]])

    def test_against_the_definition(self):
        for told, program, row in programs_and_rows(range(150), (1,), (4, 6, 8), any_row):
            for numbers, state in local_runs(program, program.threads()[0], 0, 9, 80)[0]:
                for runs in cuts_of(numbers, len(row)):
                    if told.random() < 0.3:
                        self.same(word_of(program, 0, runs), plain_word(program, runs))
                        self.is_true(is_word(program, word_of(program, 0, runs)))
                        mode, stack = state[0][0]
                        held = held_at(word_of(program, 0, runs), len(runs) - 1)
                        self.same(state_of(program, 0, runs), (mode, stack, held))
                        # The owners that the plain machine tells.
                        self.same(sorted(held), [lock for lock, owner in enumerate(state[1]) if owner == 0])


class WordTest(Case):
    def test_words(self):
        for word in WORDS:
            self.is_true(is_word(FULL, word))

    def test_words_of_a_program(self):
        for locks in range(5):
            program = Program(locks, 0, 1, [()], [0])
            for lock in range(4):
                for word in (start(take(lock), REST), start(REST, used=(lock,)), start(cut(lock), REST)):
                    self.same(is_word(program, word), lock < locks)

    def test_no_words(self):
        for value in (*STRANGE, *NEITHER, *PIECES):
            self.is_false(is_word(FULL, value))
            self.fails(InvalidWord, {"value": value}, legs_of, value)
            self.fails(InvalidWord, {"value": value}, held_at, value, None)

    def test_values_of_other_kinds(self):
        for word in WORDS[2:4]:
            for value in bent(word):
                self.is_false(is_word(FULL, value))
                self.fails(InvalidWord, {"value": value}, legs_of, value)

    def test_four_cuts(self):
        self.is_true(is_word(FULL, start(REST, REST, REST)))
        self.is_false(is_word(FULL, start(REST, REST, REST, REST)))

    def test_last_part(self):
        self.is_false(is_word(FULL, start(cut(0))))
        self.is_false(is_word(FULL, start(REST, take(0))))

    def test_programs(self):
        for value in STRANGE:
            self.fails(InvalidProgram, {"value": value}, is_word, value, None)

    def test_legs(self):
        word = WORDS[5]
        self.same(legs_of(word), [word[:3], word[3:7], word[7:10]])
        self.same(legs_of(start(REST)), [start()])
        self.same(legs_of(start(cut(0), cut(1), REST, used=(2,))), [start(used=(2,)), (cut(0),), (cut(1),)])
        legs_of(word).clear()
        self.same(len(legs_of(word=word)), 3)

    def test_held(self):
        self.same([held_at(WORDS[5], leg) for leg in range(3)], [(3, 0), (0,), (0,)])
        self.same([held_at(WORDS[3], leg) for leg in range(2)], [(0,), (1, 0)])
        self.same(held_at(start(REST, used=(0,)), 0), ())
        self.same(held_at(leg=0, word=WORDS[2]), (0, 1))

    def test_no_legs(self):
        for value in (*STRANGE, 2, (0,)):
            self.fails(InvalidLeg, {"value": value}, held_at, WORDS[3], value)
        self.fails(InvalidLeg, {"value": 1}, held_at, start(REST), 1)


class ThenTest(Case):
    def test_pieces(self):
        for piece in (*PIECES, *WORDS):
            self.same(then_word(start(), piece), piece)
            self.same(then_word(piece, start()), piece)

    def test_no_pieces(self):
        for value in (*STRANGE, *NEITHER):
            self.fails(InvalidPiece, {"value": value}, then_word, value, value)
            self.fails(InvalidPiece, {"value": value}, then_word, start(), value)
        for value in bent(PIECES[7]):
            self.fails(InvalidPiece, {"value": value}, then_word, value, None)
        self.fails(InvalidPiece, {"value": None}, then_word, None, 3)

    def test_a_start_joins_its_used_ones(self):
        self.same(then_word(start(used=(1, 3)), start(used=(0, 1))), start(used=(0, 1, 3)))
        self.same(then_word(start(take(0, 2)), start(take(1), used=(3,))), start(take(0, 2, 3), take(1)))
        self.same(then_word(start(cut(2)), start(cut(0), used=(1,))), start(cut(1, 2), cut(0)))

    def test_a_give_makes_a_taking_a_use(self):
        self.same(then_word(start(take(0)), start(give(0))), start(used=(0,)))
        self.same(then_word(start(take(0, 1), used=(3,)), start(give(0, 0, 2))), start(used=(0, 1, 2, 3)))
        self.same(then_word(start(take(0), take(1, 2)), start(give(1), give(0, 3))), start(used=(0, 1, 2, 3)))
        self.same(then_word(start(take(0), take(1)), start(give(1, 1), take(3), used=(2,))), start(take(0, 1, 2), take(3)))
        self.same(then_word(start(cut(2), take(0)), start(give(0), take(1))), start(cut(0, 2), take(1)))
        self.same(then_word(start(take(1), cut(), take(0)), start(give(0), give(1))), start(take(1), cut(0), give(1)))

    def test_a_give_behind_a_cut_stays(self):
        self.same(then_word(start(take(0), REST), start(give(0))), start(take(0), REST, give(0)))
        self.same(then_word(start(take(0)), start(REST, give(0))), start(take(0), REST, give(0)))
        self.same(then_word(start(take(0), take(1), REST), start(give(1), give(0))), start(take(0), take(1), REST, give(1), give(0)))
        # Another give stands between the taking and its giving.
        self.same(then_word(start(), start(give(2), give(1))), start(give(2), give(1)))

    def test_there_is_none(self):
        for word, other in (
            (start(take(0)), start(used=(0,))), (start(take(0)), start(take(0))), (start(take(0)), start(take(1, 0))),
            (start(take(0)), start(cut(0))), (start(take(0), REST), start(used=(0, 1))), (start(take(0)), start(give(1))),
            (start(take(1), take(0)), start(give(1))), (start(take(0), REST), start(give(1))), (start(take(0), REST), start(REST, REST, take(0))),
            (start(take(0), take(1)), start(give(1, 0))), (start(take(0), take(1)), start(give(1), cut(0))),
            (start(take(0), take(1)), start(give(1), give(0), give(1), used=(1,))), (start(take(2), take(1)), start(give(1), give(0))),
        ):
            self.same(then_word(word, other), None)

    def test_what_is_held_ahead_is_nothing(self):
        self.same(then_word(start(give(0)), start(give(1), take(0))), start(give(0), give(1), take(0)))
        self.same(then_word(start(used=(0,)), start(give(0))), start(give(0), used=(0,)))
        self.same(then_word(start(take(0)), start(give(0), give(1, 0))), start(give(1, 0), used=(0,)))

    def test_more_than_three_cuts(self):
        three = start(REST, REST, REST)
        self.same(then_word(three, three), start(*[REST] * 6))
        self.same(then_word(start(cut(0), REST, take(1)), start(give(1, 2), cut(3), cut(1))), start(cut(0), cut(1, 2), cut(3), cut(1)))

    def test_nothing_else_is_a_piece(self):
        for piece, other in itertools.product((*PIECES, *WORDS), repeat=2):
            both = then_word(piece, other)
            if both is not None and sum([part[0] == "cut" for part in both]) <= 3:
                self.same(then_word(start(), both), both)

    def test_by_name(self):
        self.same(then_word(other=start(take(1)), word=start(take(0))), start(take(0), take(1)))

    def test_words_are_pieces_one_behind_the_other(self):
        for _, program, row in programs_and_rows(range(60), (1,), (4, 6, 8), any_row):
            moves = Flow(program).moves()
            for numbers, _ in local_runs(program, program.threads()[0], 0, 8, 40)[0]:
                for runs in cuts_of(numbers, len(row)):
                    word = start()
                    for leg in runs:
                        for number in leg:
                            move = moves[number] if number < len(moves) else (0, "back", None, 0)
                            word = then_word(word, start((*move[1:3], ())) if move[1] in ("take", "give") else start())
                        word = then_word(word, start(REST))
                    self.same(word, word_of(program, 0, runs))
