"""Where cut runs can come [5b1] to [5b5]."""

from cutruns.ends import ends, length_to, run_to
from cutruns.errors import InvalidProgram, InvalidRow, InvalidThread, InvalidWord, NoWord, TooMany
from cutruns.flows import Flow
from cutruns.programs import Program
from cutruns.rows import is_fitting
from cutruns.words import is_word, word_of
from tests.helper import STRANGE, Case, bent
from tests.parts import REST, cut, give, start, take
from tests.plain import any_row, cuts_of, late_mode, local_runs, met_row, plain_word, programs_and_rows
from tests.test_throughs import TWICE, WIDE

FREE = [((), ())]
# Procedure 0: 0 -take 0-> 2 -call 1-> 4 -mark-> 3 -give-> 1; procedure 1: 5 -take 1-> 7 -step-> 8 -give-> 6.
# Moves 0 take 0, 1 call 1, 2 mark, 3 give 0, 4 take 1, 5 step, 6 give 1, BACK 7.
CALLS = Program(2, 0, 1, [(("hold", 0, (("call", 1), ("mark", 0))),), (("hold", 1, ()),)], [0, 1])
# It goes deeper as often as it likes, holding a lock at the outermost.
DEEP = Program(1, 0, 2, [(("hold", 0, (("call", 1),)),), (("either", (("call", 1),), (("set", 1),)),)], [0])
MODES = Program(0, 0, 3, [(("when", 1, (("set", 2),), (("set", 1),)), ("when", 1, (("mark", 0),), ()))], [0])


def held(lock, called):
    return ("either", (("hold", lock, (("call", called),)),), ())


# Procedures that call each other within locks, so that there are many ways to come out of them.
MANY = Program(4, 0, 1, [
    (("either", (("hold", 0, (("call", 1),)),), (("call", 2),)), ("call", 3)),
    (("either", (("hold", 1, (("call", 2),)),), (("call", 3),)),),
    (held(2, 3),),
    (held(3, 0),),
], [0, 1])


def at(place):
    return (((0, "at", place),), ())


def behind(number):
    return (((0, "behind", number),), ())


class EndsTest(Case):
    def told(self, row, *words, program=CALLS):
        self.same(ends(program, 0, row), sorted(words))
        self.same(ends(program, 0, tuple(row)), sorted(words))

    def test_the_flow_is_as_told_above(self):
        moves = [(0, "take", 0, 2), (2, "call", 1, 4), (4, "mark", 0, 3), (3, "give", 0, 1), (5, "take", 1, 7),
                 (7, "step", None, 8), (8, "give", 1, 6)]
        self.same(Flow(CALLS).moves(), moves)

    def test_places_of_one_leg(self):
        for place, word in (
            (0, start(REST)), (2, start(take(0), REST)), (4, start(take(0, 1), REST)), (3, start(take(0, 1), REST)),
            (1, start(REST, used=(0, 1))), (5, start(take(0), REST)), (7, start(take(0), take(1), REST)),
            (8, start(take(0), take(1), REST)), (6, start(take(0, 1), REST)),
        ):
            self.told([at(place)], word)
        self.same(len(ends(CALLS, 0, FREE)), 5)
        self.same(ends(CALLS, 1, FREE), sorted([start(REST), start(take(1), REST), start(REST, used=(1,))]))

    def test_nothing_comes_there(self):
        self.told([at(1), at(0)])
        self.told([(((0, "at", 4),), ((0, 6),))])
        self.told([behind(0), behind(0)])
        self.same(ends(CALLS, 1, [(((1, "at", 0),), ())]), [])

    def test_one_move_behind_another(self):
        self.told([behind(0), behind(2)], start(take(0), cut(1), REST))
        self.told([behind(4), behind(6), behind(3)], start(take(0), take(1), cut(), give(1), cut(), give(0), REST))
        self.told([behind(2), behind(3)], start(take(0, 1), cut(), give(0), REST))
        self.told([at(4), at(4), at(4)], start(take(0, 1), cut(), cut(), REST))
        self.told([at(4), at(4), behind(2)], start(take(0, 1), cut(), cut(), REST))

    def test_right_behind_a_call(self):
        # Gone into, where it stays open, and gone through behind the cut.
        self.told([behind(1)], start(take(0), REST))
        self.told([behind(1), at(7)], start(take(0), cut(), take(1), REST))
        self.told([behind(1), at(4)], start(take(0), cut(1), REST))
        self.told([behind(1), behind(5), behind(7)], start(take(0), cut(), take(1), cut(), give(1), REST))
        self.same(run_to(CALLS, 0, [behind(1), at(4)], start(take(0), cut(1), REST)), [[0, 1], [4, 5, 6, 7]])

    def test_right_behind_back(self):
        self.told([behind(7)], start(take(0, 1), REST))
        self.told([behind(5), behind(7)], start(take(0), take(1), cut(), give(1), REST))
        self.told([behind(1), behind(7), behind(2)], start(take(0), cut(1), cut(), REST))
        self.told([behind(7), behind(7)])
        # Out of the procedure of its own it never comes back.
        self.same(ends(CALLS, 1, [(((1, "behind", 7),), ())]), [])

    def test_bans(self):
        for number in range(8):
            row = [(((0, "at", 1),), ((0, number), (1, 0)))]
            self.told(row)
            self.told([(((0, "at", 1),), ((1, number),))], start(REST, used=(0, 1)))
            # In the other leg it is done.
            told = ends(CALLS, 0, [((), ((0, number),)), at(1)])
            self.same(len(told), {0: 1, 1: 2, 2: 4, 3: 4, 4: 2, 5: 3, 6: 3, 7: 4}[number])
        # BACK is done in the leg of the through's end, the call in that of its begin.
        self.told([((), ((0, 7),)), (((0, "at", 4),), ((0, 1),))], start(take(0), cut(1), REST), start(take(0), take(1), cut(), give(1), REST),
                  start(take(0, 1), cut(), REST))

    def test_modes(self):
        flow = Flow(MODES)
        mark = flow.place_ahead(0, [1, 0, 0])
        self.told([(((0, "in", (mark, 1)),), ())], start(REST), program=MODES)
        for mode in (0, 2):
            self.told([(((0, "in", (mark, mode)),), ())], program=MODES)
        self.told([(((0, "in", (0, 0)),), ())], start(REST), program=MODES)
        self.told([(((0, "in", (0, 1)),), ())], program=MODES)

    def test_calls_of_itself(self):
        # However deep: they hold the one lock, or all have come back.
        self.told([(((0, "in", (4, 0)),), ()), (((0, "in", (1, 1)),), ())], start(take(0), cut(), give(0), REST), program=DEEP)
        self.same(length_to(DEEP, 0, [at(1)], start(REST, used=(0,))), 6)
        call = [number for number, move in enumerate(Flow(DEEP).moves()) if move[1] == "call"][1]
        row = [behind(call), (((0, "at", 4),), ((0, call),)), at(1)]
        self.told(row, start(take(0), cut(), cut(), give(0), REST), program=DEEP)
        self.same(length_to(DEEP, 0, row, start(take(0), cut(), cut(), give(0), REST)), 11 - 2)

    def test_a_lock_of_its_own(self):
        never = Program(1, 0, 1, [(("hold", 0, (("call", 1), ("mark", 0))),), (("hold", 0, ()),)], [0])
        mark = Flow(never).place_ahead(0, [0, 0, 1])
        self.told([at(mark)], program=never)
        self.told([at(Flow(never).begin_of(1))], start(take(0), REST), program=never)
        self.told([at(Flow(never).begin_of(1) + 2)], program=never)

    def test_the_example_of_the_document(self):
        inner = (("hold", 0, ()),)
        program = Program(2, 0, 1, [(("hold", 0, ()), ("hold", 1, (("call", 1),))), inner], [0])
        place = [far for _, kind, _, far in Flow(program).moves() if kind == "call"][0]
        self.told([at(place)], start(take(1, 0), REST, used=(0,)), program=program)

    def test_against_all_cut_runs(self):
        met = 0
        for kind in (any_row, met_row):
            for told, program, row in programs_and_rows(range(500, 700), (1, 2), (4, 6, 8), kind):
                thread = told.randrange(len(program.threads()))
                begin, plain = program.threads()[thread], {}
                runs, most = local_runs(program, begin, 0, 9, 400)
                for numbers, _ in runs:
                    for run in cuts_of(numbers, len(row)):
                        if late_mode(program, begin, 0, row, 0, run, thread, True) is not None:
                            plain.setdefault(plain_word(program, run), len(numbers))
                found = ends(program, thread, row)
                self.same(found, sorted(set(found)))
                lengths = {word: length_to(program, thread, row, word) for word in found}
                self.assertEqual({word: length for word, length in lengths.items() if length <= most}, plain)
                met += len(plain)
                for word in found[:6]:
                    run = run_to(program, thread, row, word)
                    self.same(sum([len(leg) for leg in run]), lengths[word])
                    self.is_true(is_fitting(program, thread, row, run))
                    self.same(word_of(program, thread, run), word)
        self.assertGreater(met, 300)

    def test_new_lists(self):
        row, word = [behind(0), behind(2)], start(take(0), cut(1), REST)
        ends(CALLS, 0, row).clear()
        run_to(CALLS, 0, row, word)[0].clear()
        self.same(ends(row=row, thread=0, program=CALLS), [word])
        self.same(run_to(word=word, row=row, thread=0, program=CALLS), [[0], [1, 4, 5, 6, 7, 2]])
        self.same(length_to(word=word, row=row, thread=0, program=CALLS), 7)
        self.same(row, [behind(0), behind(2)])


class LengthTest(Case):
    def test_no_moves(self):
        self.same(length_to(CALLS, 0, FREE * 3, start(REST, REST, REST)), 0)
        self.same(run_to(CALLS, 0, FREE * 3, start(REST, REST, REST)), [[], [], []])

    def test_gone_into_and_gone_through(self):
        self.same(length_to(CALLS, 0, [at(7)], start(take(0), take(1), REST)), 3)
        self.same(length_to(CALLS, 0, [at(4)], start(take(0, 1), REST)), 6)
        self.same(length_to(CALLS, 0, [at(1)], start(REST, used=(0, 1))), 8)

    def test_400_moves_and_more(self):
        word = start(REST)
        for program, length in ((TWICE, None), (Program(0, 0, 1, [(("call", 1),) * 4, (("call", 2),) * 14, (("skip",),) * 5], [0]), 400),
                                (Program(0, 0, 1, [(("call", 1),) * 4 + (("skip",),), (("call", 2),) * 14, (("skip",),) * 5], [0]), 401)):
            row = [at(1)]
            many = length_to(program, 0, row, word)
            self.assertTrue(length is None or many == length)
            if many > 400:
                self.fails(TooMany, {"what": "moves", "limit": 400}, run_to, program, 0, row, word)
            else:
                run = run_to(program, 0, row, word)
                self.same(len(run[0]), many)
                self.is_true(is_fitting(program, 0, row, run))
        self.assertGreater(length_to(TWICE, 0, [at(1)], word), 400)


class ErrorsTest(Case):
    def test_no_words(self):
        for value in (*STRANGE, start(), start(take(0)), start(REST, REST, REST, REST), *bent(start(take(0), REST))):
            self.fails(InvalidWord, {"value": value}, length_to, CALLS, 0, FREE, value)
            self.fails(InvalidWord, {"value": value}, run_to, CALLS, 0, FREE, value)

    def test_words_that_do_not_come(self):
        # Among them one of another program, and one with another number of cuts.
        for word in (start(take(1), REST), start(take(3), REST), start(REST, REST), start(REST, used=(0,)), start(take(0), cut(), give(0), REST)):
            self.is_true(is_word(Program(4, 0, 1, [()], [0]), word))
            self.fails(NoWord, {"word": word}, length_to, CALLS, 0, FREE, word)
            self.fails(NoWord, {"word": word}, run_to, CALLS, 0, FREE, word)

    def test_1500_words_and_more(self):
        row, told = FREE * 3, {"what": "words", "limit": 1500}
        self.fails(TooMany, told, ends, MANY, 0, row)
        for action in (length_to, run_to):
            self.fails(TooMany, told, action, MANY, 0, row, start(REST, REST, REST))
            self.fails(TooMany, told, action, MANY, 0, row, start(take(0), REST, REST, REST))
            # That there is none comes ahead of it.
            for word in (start(REST), start(take(1), REST, REST, REST)):
                self.fails(NoWord, {"word": word}, action, MANY, 0, row, word)
            self.fails(InvalidWord, {"value": 0}, action, MANY, 0, row, 0)

    def test_just_1500_words_and_1501(self):
        self.same(len(ends(MANY, 0, [((), ((0, 2),)), ((), ((0, 6), (0, 1))), *FREE])), 1500)
        row = [*FREE, ((), ((0, 19), (0, 15))), ((), ((0, 22), (0, 19), (0, 9)))]
        self.fails(TooMany, {"what": "words", "limit": 1500}, ends, MANY, 0, row)

    def test_20000_withins_and_more(self):
        row, told = FREE * 3, {"what": "withins", "limit": 20000}
        self.fails(TooMany, told, ends, WIDE, 0, row)
        for action in (length_to, run_to):
            self.fails(TooMany, told, action, WIDE, 0, row, start(REST, REST, REST))
            self.fails(TooMany, told, action, WIDE, 0, row, start(REST))
            self.fails(InvalidWord, {"value": None}, action, WIDE, 0, row, None)

    def test_which_error_comes_first(self):
        for action, more in ((ends, ()), (length_to, (None,)), (run_to, (None,))):
            for value in STRANGE:
                self.fails(InvalidProgram, {"value": value}, action, value, 7, None, *more)
                self.fails(InvalidThread, {"value": value}, action, CALLS, value, None, *more)
                self.fails(InvalidRow, {"value": value}, action, CALLS, 1, value, *more)
            self.fails(InvalidThread, {"value": 2}, action, CALLS, 2, FREE, *more)
