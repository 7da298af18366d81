"""Closed tables [7a2], [7a3], and papers that a row can't be met [7a4]."""

import random

from cutruns.errors import InvalidProgram, InvalidRow, InvalidTable, TooMany
from cutruns.flows import Flow
from cutruns.judges import first_lacking, is_apart, is_closed, paper_apart
from cutruns.meetings import can_meet, meeting
from cutruns.orders import agree
from cutruns.programs import Program
from cutruns.tables import is_table, least_table
from tests.asked import first_lack, then
from tests.helper import STRANGE, Case, bent
from tests.parts import REST, start
from tests.plain import any_row, met_row, programs_and_rows
from tests.test_ends import MANY
from tests.test_throughs import WIDE

FREE = [((), ())]
# Procedure 0: 0 -take 0-> 2 -call 1-> 4 -set 1-> 3 -give 0-> 1; 1: 5 -is 0-> 7 -step-> 6, 5 -not 0-> 8 -take 1-> 9 -> 10 -> 6.
# Moves 0 take 0, 1 call 1, 2 set 1, 3 give 0, 4 is 0, 5 step, 6 not 0, 7 take 1, 8 step, 9 give 1, BACK 10.
CALLS = Program(2, 0, 2, [
    (("hold", 0, (("call", 1), ("set", 1))),),
    (("when", 0, (("skip",),), (("hold", 1, ()),)),),
], [0, 1])
ONE = Program(1, 1, 1, [(("hold", 0, (("touch", 0),)),)], [0, 0])
BOTH = [(((0, "at", 3), (1, "at", 2)), ())]


def at(place):
    return (((0, "at", place),), ())


def behind(number):
    return (((0, "behind", number),), ())


# Rows of CALLS that ask for tuples of each kind: cuts of each sort of item, right behind moves, calls, BACK, and bans.
ROWS = (
    [((), ()), at(3)], [at(2), at(4)], [(((0, "in", (5, 0)),), ()), behind(3)], [behind(1), at(6), behind(10)], [behind(10), behind(2)],
    [behind(1), behind(10), at(1)], [behind(2), at(1), at(1)], [behind(0), behind(1), behind(4)], [at(1)], [((), ((0, 1),)), at(0)],
    [((), ((0, 10),)), at(3)], [(((0, "at", 2),), ((0, 2),)), ((), ()), (((1, "behind", 4),), ((1, 6),))],
)


def without(table, which, part, position):
    """The table without one tuple."""
    told = [list(one) for one in table]
    told[which][part] = told[which][part][:position] + told[which][part][position + 1:]
    return [tuple(one) for one in told]


def with_one(table, which, part, one):
    told = [list(one) for one in table]
    told[which][part] = [*told[which][part], one]
    return [tuple(one) for one in told]


def positions(table):
    return [(which, part, position) for which, one in enumerate(table) for part in (1, 2) for position in range(len(one[part]))]


def any_tuple(told, table, which, part):
    """A tuple of the table with another place, phase or piece, taken from others."""
    rows = [row for one in table for row in one[part]]
    one, other, third = [told.choice(rows) for _ in range(3)]
    made = [told.choice(parts) for parts in zip(one, other, third)]
    if told.random() < 0.3:
        lock = told.randrange(2)
        made[-1] = then(made[-1], told.choice((start(used=(lock,)), start(("take", lock, ())), start(("give", lock, ()))))) or made[-1]
    return tuple(made)


class ClosedTest(Case):
    def test_the_flow_is_as_told_above(self):
        self.same([move[1:3] for move in Flow(CALLS).moves()], [
            ("take", 0), ("call", 1), ("set", 1), ("give", 0), ("is", 0), ("step", None), ("not", 0), ("take", 1), ("step", None), ("give", 1),
        ])

    def test_each_tuple_is_asked_for(self):
        for row in ROWS:
            table = least_table(CALLS, row)
            self.is_true(is_closed(CALLS, row, table))
            self.same(first_lacking(CALLS, row, table), None)
            for which, part, position in positions(table):
                bad = without(table, which, part, position)
                self.is_false(is_closed(CALLS, row, bad))
                self.same(first_lacking(CALLS, row, bad), (table[which][0], table[which][part][position]))
                self.is_false(is_apart(CALLS, row, bad))

    def test_like_ones_in_any_sequence(self):
        for row in ROWS:
            told = random.Random(1)
            table = [(thread, told.sample(withins * 2, 2 * len(withins)), tuple(told.sample(standings * 2, 2 * len(standings))))
                     for thread, withins, standings in least_table(CALLS, row)]
            self.is_true(is_closed(CALLS, row, table))
            self.is_true(is_closed(CALLS, tuple(row), tuple(table)))

    def test_what_is_lacking_first(self):
        row = [(((0, "at", 3), (1, "at", 6)), ())]
        table = least_table(CALLS, row)
        # The first thread, and in it withins ahead of standings, and the least one of these.
        for kept in range(5):
            bad = [(thread, withins[:kept], []) for thread, withins, _ in table]
            told = first_lacking(CALLS, row, bad)
            self.same(told, first_lack(CALLS, row, bad))
            self.same([told[0], len(told[1])], [0, 7])
        self.same(first_lacking(CALLS, row, [table[0], (1, table[1][1], [])]), (1, table[1][2][0]))
        self.same(first_lacking(CALLS, row, [table[0], (1, [], table[1][2])]), (1, table[1][1][0]))
        self.same(first_lacking(CALLS, row, [(0, table[0][1], []), (1, [], [])]), (0, (0, 0, 0, start())))
        self.same(first_lacking(table=table, row=row, program=CALLS), None)
        self.is_true(is_closed(value=table, row=row, program=CALLS))

    def test_one_that_is_too_much_and_asks_for_nothing(self):
        row = [(((0, "at", 1),), ())]
        table = least_table(ONE, row)
        for part, one in ((2, (1, 0, 0, start(REST))), (2, (1, 2, 0, start(("take", 0, ()), REST))), (1, (0, 0, 0, 1, 0, 0, start()))):
            more = with_one(table, 0, part, one)
            self.assertNotIn(one, table[0][part])
            self.is_true(is_closed(ONE, row, more))

    def test_one_that_is_too_much_and_asks_for_more(self):
        row = [(((0, "at", 1),), ())]
        table = least_table(ONE, row)
        for part, one, asked in (
            (2, (0, 1, 0, start()), (1, 1, 0, start(REST))),
            (2, (0, 2, 0, start()), (0, 3, 0, start())),
            (1, (0, 0, 0, 2, 0, 0, start()), (0, 0, 0, 3, 0, 0, start())),
            (1, (0, 0, 0, 3, 0, 0, start()), (0, 0, 0, 1, 0, 0, start(("give", 0, ())))),
        ):
            more = with_one(table, 0, part, one)
            self.is_false(is_closed(ONE, row, more))
            self.same(first_lacking(ONE, row, more), (0, asked))
        # A give of what the word doesn't hold can't stand in any table.
        more = with_one(table, 0, 2, (0, 3, 0, start()))
        self.same(first_lacking(ONE, row, more), (0, (0, 1, 0, start(("give", 0, ())))))

    def test_nothing_is_asked_for_where_there_is_nothing_put_behind(self):
        row = [(((0, "at", 1),), ())]
        table = with_one(least_table(ONE, row), 0, 1, (0, 0, 0, 0, 0, 0, start(("take", 0, ()))))
        self.is_true(is_closed(ONE, row, table))
        # Around the place it is held, whatever the stem tells.
        nest = Program(1, 0, 1, [(("hold", 0, (("hold", 0, ()),)),)], [0])
        table = with_one(least_table(nest, [at(1)]), 0, 1, (0, 0, 0, 2, 0, 0, start()))
        self.is_true(is_closed(nest, [at(1)], table))

    def test_throughs_with_locks_that_are_held(self):
        # Put behind the take of the lock the piece would make a use of it, but it isn't asked for.
        for inner in (start(("give", 0, ())), start(("give", 0, ()), used=(1,)), start(used=(0,))):
            self.assertEqual(then(start(("take", 0, ())), inner) is None, inner == start(used=(0,)))
            more = with_one(least_table(CALLS, [at(1)]), 0, 1, (1, 0, 0, 6, 0, 0, inner))
            self.is_true(is_closed(CALLS, [at(1)], more))
        more = with_one(least_table(CALLS, [at(1)]), 0, 1, (1, 0, 0, 6, 0, 0, start(("give", 1, ()))))
        self.same(then(start(("take", 0, ())), start(("give", 1, ()))), None)
        self.is_true(is_closed(CALLS, [at(1)], more))
        more = with_one(least_table(CALLS, [at(1)]), 0, 1, (1, 0, 0, 6, 0, 1, start()))
        self.same(first_lacking(CALLS, [at(1)], more), (0, (0, 0, 0, 4, 0, 1, start(("take", 0, ())))))

    def test_against_the_document(self):
        kinds = []
        for kind in (any_row, met_row):
            for told, program, row in programs_and_rows(range(120), (1, 2), (3, 4, 6), kind):
                table = least_table(program, row)
                self.same(first_lack(program, row, table), None)
                for _ in range(8):
                    bad = table
                    for _ in range(told.choice((1, 1, 2, 3))):
                        places = positions(bad)
                        if places and told.random() < 0.3:
                            bad = without(bad, *told.choice(places))
                        elif places:
                            which, part, _ = told.choice(places)
                            bad = with_one(bad, which, part, any_tuple(told, bad, which, part))
                    if is_table(program, row, bad):
                        lacking = first_lack(program, row, bad)
                        self.same(first_lacking(program, row, bad), lacking)
                        self.same(is_closed(program, row, bad), lacking is None)
                        kinds.append(lacking is None and [len(one[1]) for one in bad] != [len(one[1]) for one in table])
        self.assertGreater(kinds.count(True), 20)
        self.assertGreater(kinds.count(False), 200)

    def test_grown_tables(self):
        # Any tuple that is too much, with all that it asks for then, makes a closed table again.
        grown = 0
        for told, program, row in programs_and_rows(range(100), (1,), (3, 4, 6), met_row):
            table = least_table(program, row)
            if not table or not positions(table):
                continue
            which, part, _ = told.choice(positions(table))
            more = with_one(table, which, part, any_tuple(told, table, which, part))
            for _ in range(60):
                if not is_table(program, row, more) or is_closed(program, row, more):
                    break
                thread, lacking = first_lacking(program, row, more)
                more = with_one(more, [one[0] for one in more].index(thread), 1 if len(lacking) == 7 else 2, lacking)
            if is_table(program, row, more) and is_closed(program, row, more):
                self.same(first_lack(program, row, more), None)
                grown += sum([len(one[1]) + len(one[2]) for one in more]) > sum([len(one[1]) + len(one[2]) for one in table]) + 1
                if is_apart(program, row, more):
                    self.is_false(can_meet(program, row))
        self.assertGreater(grown, 5)

    def test_values_that_are_no_tables(self):
        row = [(((0, "at", 1),), ())]
        table = [(0, least_table(ONE, row)[0][1][:2], least_table(ONE, row)[0][2][-1:])]
        for value in (*STRANGE, *bent(table), [], least_table(ONE, BOTH), [(1, *least_table(ONE, row)[0][1:])], {0: table[0]}):
            self.is_false(is_closed(ONE, row, value))
            self.is_false(is_apart(ONE, row, value))
            self.fails(InvalidTable, {"value": value}, first_lacking, ONE, row, value)

    def test_tables_of_another_row_or_program(self):
        row, other = [(((0, "at", 2),), ())], [(((0, "at", 1),), ())]
        self.is_false(is_closed(ONE, row, least_table(ONE, other)))
        self.is_false(is_closed(ONE, [*FREE, *row], least_table(ONE, row)))
        longer = Program(1, 1, 1, [(("hold", 0, (("touch", 0), ("skip",))),)], [0, 0])
        self.is_false(is_closed(longer, row, least_table(ONE, row)))
        self.is_false(is_apart(longer, BOTH, paper_apart(ONE, BOTH)))
        self.is_true(is_closed(ONE, [(((0, "at", 2),), ((1, 0),))], least_table(ONE, row)))


class ApartTest(Case):
    def test_either_schedules_or_a_paper(self):
        met = []
        for kind in (any_row, met_row):
            for _, program, row in programs_and_rows(range(3000, 3150), (1, 2, 3), (4, 6), kind):
                paper, told = paper_apart(program, row), meeting(program, row)
                self.same([paper is None, told is None], [told is not None, paper is not None])
                table = least_table(program, row)
                self.same(is_apart(program, row, table), told is None)
                if paper is not None:
                    self.same(paper, table)
                words = [[word for phase, _, _, word in standings if phase == len(row)] for _, _, standings in table]
                if len(words) == 2:
                    self.same(can_meet(program, row), any([agree([one, other]) for one in words[0] for other in words[1]]))
                met.append(told is None)
        self.assertGreater(met.count(True), 60)
        self.assertGreater(met.count(False), 60)

    def test_a_row_without_threads(self):
        for row in (FREE, [((), ((0, 0),)), ((), ())]):
            self.same([least_table(ONE, row), paper_apart(ONE, row), first_lacking(ONE, row, [])], [[], None, None])
            self.is_true(is_closed(ONE, row, []))
            self.is_false(is_apart(ONE, row, []))
            self.is_false(is_closed(ONE, row, [(0, [], [])]))

    def test_a_thread_that_never_comes(self):
        row = [(((0, "at", 2), (1, "at", 0)), ((0, 0),))]
        self.is_true(is_apart(ONE, row, paper_apart(ONE, row)))

    def test_a_paper_must_be_closed(self):
        paper = paper_apart(ONE, BOTH)
        self.is_true(is_apart(ONE, BOTH, paper))
        self.is_true(is_apart(value=paper, row=BOTH, program=ONE))
        self.is_false(is_apart(ONE, BOTH, [(0, [], []), (1, [], [])]))
        for which, part, position in positions(paper):
            self.is_false(is_apart(ONE, BOTH, without(paper, which, part, position)))

    def test_a_closed_table_with_words_that_agree_is_none(self):
        paper = paper_apart(ONE, BOTH)
        # Too much: as if thread 0 could come to its last cut without the lock.
        more = with_one(paper, 0, 2, (1, 3, 0, start(REST)))
        self.is_true(is_closed(ONE, BOTH, more))
        self.is_false(is_apart(ONE, BOTH, more))
        # As good as the least one: with the lock.
        more = with_one(paper, 0, 2, (1, 0, 0, start(("take", 0, ()), REST)))
        self.is_true(is_apart(ONE, BOTH, more))
        self.assertGreater(len(more[0][2]), len(least_table(ONE, BOTH)[0][2]))

    def test_three_threads(self):
        holds = [(("hold", one, (("hold", other, ()), ("mark", 0))),) for one, other in ((0, 1), (1, 2), (2, 0))]
        ring = Program(3, 0, 1, holds, [0, 1, 2])
        items = [(thread, "at", Flow(ring).place_ahead(thread, [0, 0, 1])) for thread in range(3)]
        self.same([paper_apart(ring, [(tuple(items[:2]), ())]), paper_apart(ring, [(tuple(items[1:]), ())])], [None, None])
        paper = paper_apart(ring, [(tuple(items), ())])
        self.is_true(is_apart(ring, [(tuple(items), ())], paper))

    def test_too_many(self):
        row = FREE * 2 + [(((0, "at", 1),), ())]
        self.fails(TooMany, {"what": "withins", "limit": 20000}, paper_apart, WIDE, row)
        self.fails(TooMany, {"what": "standings", "limit": 20000}, paper_apart, MANY, row)
        self.is_false(is_apart(WIDE, row, [(0, [], [])]))
        self.is_false(is_closed(WIDE, row, [(0, [], [])]))

    def test_new_lists(self):
        paper = paper_apart(ONE, BOTH)
        paper[0][1].clear()
        self.same(paper_apart(row=BOTH, program=ONE), least_table(ONE, BOTH))
        self.same(BOTH, [(((0, "at", 3), (1, "at", 2)), ())])

    def test_which_error_comes_first(self):
        for action, more in ((is_closed, (None,)), (first_lacking, (None,)), (paper_apart, ()), (is_apart, (None,))):
            for value in STRANGE:
                self.fails(InvalidProgram, {"value": value}, action, value, None, *more)
                self.fails(InvalidRow, {"value": value}, action, ONE, value, *more)
