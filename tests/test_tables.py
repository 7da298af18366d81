"""Tables [7a1], [7a3]."""

from cutruns.callings import is_recursive
from cutruns.ends import ends
from cutruns.errors import InvalidProgram, InvalidRow, TooMany
from cutruns.flows import Flow
from cutruns.machine import Machine
from cutruns.programs import Program
from cutruns.tables import is_table, least_table
from cutruns.throughs import throughs
from tests.asked import first_lack
from tests.helper import STRANGE, Case, bent
from tests.parts import REST, start
from tests.plain import (
    any_row,
    begin_at,
    cuts_of,
    is_banned,
    is_so,
    local_runs,
    met_row,
    plain_word,
    programs_and_rows,
)
from tests.test_ends import MANY
from tests.test_throughs import LOOPS, WIDE

FREE = [((), ())]
# Procedure 0: 0 -take 0-> 2 -call 1-> 3 -give-> 1; procedure 1: 4 -set 1-> 5.
CALLS = Program(2, 0, 2, [(("hold", 0, (("call", 1),)),), (("set", 1),)], [0, 1, 0])
ROW = [(((2, "at", 3),), ()), (((0, "at", 2),), ((2, 2),))]


HELD = start(("take", 0, ()))


def plain_lists(program, row, thread, most):
    """Withins and standings of the thread by all its runs; None if there are longer ones than so many moves."""
    legs, found = len(row), ({}, {})
    begins = [(False, procedure, mode) for procedure in range(len(program.bodies())) for mode in range(program.modes)]
    for whole, procedure, mode in [(True, program.threads()[thread], 0), *begins]:
        runs, told = local_runs(program, procedure, mode, most, 300)
        if told < most or max([len(numbers) for numbers, _ in runs]) == most:
            return None
        for numbers, state in runs:
            later, stack = state[0][0]
            if whole or len(stack) == 1:
                for phase in [0] if whole else range(legs):
                    for late in range(phase, legs + 1 if whole else legs):
                        for cut in cuts_of(numbers, late - phase + 1):
                            # Behind the last cut nothing is done.
                            if late == legs and cut[-1] != []:
                                continue
                            if goes_so(program, procedure, mode, row, phase, cut, thread):
                                word = plain_word(program, cut)[:-1]
                                one = (late, stack[-1], later, word) if whole else (procedure, phase, mode, stack[-1], late, later, word)
                                found[whole][one] = True
    return sorted(found[False]), sorted(found[True])


def goes_so(program, procedure, mode, row, phase, legs, thread):
    """Whether the run goes as the row wants, with a cut behind each leg but the last one."""
    machine, state = begin_at(program, procedure, mode)
    for at, numbers in enumerate(legs):
        if phase + at < len(row) and is_banned(row, phase + at, thread, numbers):
            return False
        for number in numbers:
            state = machine.after(state, (0, number))
        later, stack = state[0][0]
        if at < len(legs) - 1 and not is_so(row, phase + at, thread, later, stack[-1], numbers):
            return False
    return True


class LeastTest(Case):
    def test_the_flow_is_as_told_above(self):
        self.same(Flow(CALLS).moves(), [(0, "take", 0, 2), (2, "call", 1, 3), (3, "give", 0, 1), (4, "set", 1, 5)])

    def test_one_thread(self):
        (thread, withins, standings), = least_table(Program(1, 0, 1, [(("hold", 0, ()),)], [0, 0]), [(((1, "behind", 0),), ())])
        self.same(thread, 1)
        self.same(withins, sorted([(0, 0, 0, 0, 0, 0, start()), (0, 0, 0, 1, 0, 0, start(used=(0,))), (0, 0, 0, 2, 0, 0, HELD),
                                   (0, 0, 0, 3, 0, 0, HELD)]))
        self.same(standings, sorted([(0, 0, 0, start()), (0, 2, 0, HELD), (0, 3, 0, HELD), (0, 1, 0, start(used=(0,))),
                                     (1, 2, 0, (*HELD, REST))]))

    def test_threads(self):
        table = least_table(CALLS, ROW)
        self.same([thread for thread, _, _ in table], [0, 2])
        self.same([least_table(CALLS, FREE), least_table(CALLS, [((), ((0, 0),)), ((), ())])], [[], []])
        for one in table:
            self.same([one.__class__, one[1].__class__, one[2].__class__], [tuple, list, list])
            self.same([sorted(set(one[1])), sorted(set(one[2]))], [one[1], one[2]])

    def test_against_all_runs(self):
        met = 0
        for kind in (any_row, met_row):
            for _, program, row in programs_and_rows(range(300), (1, 2), (3, 4), kind):
                if is_recursive(program):
                    continue
                for thread, withins, standings in least_table(program, row):
                    plain = plain_lists(program, row, thread, 10)
                    if plain is not None:
                        self.same(withins, plain[0])
                        self.same(standings, plain[1])
                        met += 1
        self.assertGreater(met, 100)

    def test_throughs_and_ends(self):
        for kind in (any_row, met_row):
            for _, program, row in programs_and_rows(range(40), (1, 2), (4, 6, 8), kind):
                flow = Flow(program)
                for thread, withins, standings in least_table(program, row):
                    told = [(*one[:3], *one[4:]) for one in withins if one[3] == flow.end_of(one[0])]
                    self.same(sorted(told), throughs(program, thread, row))
                    words = {word: True for phase, _, _, word in standings if phase == len(row)}
                    self.same(sorted(words), ends(program, thread, row))

    def test_20000_withins_and_more(self):
        row = FREE * 2 + [(((0, "at", 1),), ())]
        self.fails(TooMany, {"what": "withins", "limit": 20000}, least_table, WIDE, row)
        self.same(least_table(WIDE, FREE * 3), [])

    def test_20000_standings_and_more(self):
        row = FREE * 2 + [(((0, "at", 1),), ())]
        told = {"what": "standings", "limit": 20000}
        self.fails(TooMany, told, least_table, MANY, row)
        self.assertGreater(len(least_table(MANY, row[1:])[0][2]), 2000)
        # Thread 1 has fewer, and a thread that has too many withins is told ahead of a later one.
        self.same(len(least_table(MANY, FREE * 2 + [(((1, "at", 1),), ())])), 1)
        both = Program(4, 0, 1, [*MANY.bodies(), WIDE.bodies()[0]], [0, 4])
        way = ((0, Flow(both).moves_from(Flow(both).begin_of(4))[0]),)
        self.fails(TooMany, told, least_table, both, [((), way), ((), way), (((0, "at", 1), (1, "at", 1)), way)])

    def test_just_20000_standings_and_more(self):
        row = FREE * 2 + [(((0, "at", 1),), ())]
        held = (("hold", 3, (
            ("either", (("skip",), ("hold", 1, (("skip",),))), (("skip",),)),
            ("loop", (("skip",), ("hold", 2, (("skip",), ("skip",))))),
        )),)
        chosen = (("either", (("call", 1), ("call", 1)), (("call", 2),)),)
        for many, more in ((22, False), (23, True)):
            program = Program(4, 0, 1, [chosen, held, (("skip",),) * many], [0])
            if more:
                self.fails(TooMany, {"what": "standings", "limit": 20000}, least_table, program, row)
            else:
                self.same(len(least_table(program, row)[0][2]), 20000)

    def test_just_20000_withins_and_few_standings(self):
        row = FREE * 2 + [(((0, "at", 1),), ())]
        (_, withins, standings), = least_table(Program(3, 0, 1, [LOOPS, (("skip",),) * 7], [1]), row)
        self.same([len(withins), len(standings)], [20000, 24])

    def test_new_lists(self):
        table = least_table(CALLS, ROW)
        table[0][1].clear()
        table[1][2].append(0)
        self.same(first_lack(CALLS, ROW, least_table(row=ROW, program=CALLS)), None)


class IsTableTest(Case):
    WITHINS = [(0, 0, 0, 0, 0, 0, start()), (0, 0, 1, 3, 1, 0, start(("give", 1, (0,)), REST)), (1, 1, 0, 5, 1, 1, start(("take", 1, ())))]
    STANDINGS = [(0, 5, 1, start()), (1, 0, 0, (*HELD, ("cut", None, (1,)), ("give", 0, (0,)))), (2, 3, 1, start(REST, REST))]

    def table(self, withins=(), standings=()):
        return [(0, list(withins), list(standings)), (2, [], [])]

    def holds(self, *tables):
        for table in tables:
            self.is_true(is_table(CALLS, ROW, table))

    def holds_not(self, *values):
        for value in values:
            self.is_false(is_table(CALLS, ROW, value))

    def test_tables(self):
        self.holds(self.table(), self.table(self.WITHINS, self.STANDINGS), tuple(self.table()), least_table(CALLS, ROW),
                   self.table(self.WITHINS * 2, self.STANDINGS[::-1] * 2), [(0, (), []), (2, tuple(self.WITHINS), tuple(self.STANDINGS))])
        self.is_true(is_table(CALLS, FREE, []))
        self.is_true(is_table(CALLS, FREE, ()))
        self.is_false(is_table(CALLS, FREE, self.table()))

    def test_other_threads(self):
        one = ([], [])
        self.holds_not([], [(0, *one)], [(2, *one), (0, *one)], [(0, *one), (1, *one)], [(0, *one), (2, *one), (2, *one)],
                       [(0, *one), (0, *one)], [(0, [])] * 2, [(0, [], [], []), (2, *one)], [[0, [], []], (2, *one)],
                       [(0, {}, []), (2, *one)], [(False, *one), (2, *one)])

    def test_withins(self):
        for within in (
            (2, 0, 0, 0, 0, 0, start()), (1, 0, 0, 0, 0, 0, start()), (0, 0, 0, 4, 0, 0, start()), (0, 0, 0, 6, 0, 0, start()),
            (0, 1, 0, 0, 0, 0, start()), (0, 0, 0, 0, 1, 0, start()), (0, 0, 0, 0, 0, 0, start(REST)), (0, 2, 0, 0, 2, 0, start()),
            (0, 0, 0, 0, 2, 0, start(REST, REST)), (0, 0, 2, 0, 0, 0, start()), (0, 0, 0, 0, 0, 2, start()), (0, 0, 0, 0, 0, 0, ()),
            (0, 0, 0, 0, 0, 0, start(("take", 2, ()))), (0, 0, 0, 0, 0, 0, start(used=(3,))), (0, 0, 0, 0, 0, start()),
            (0, 0, 0, 0, 0, 0, start(("take", 0, (0,)))), [0, 0, 0, 0, 0, 0, start()], (0, 0, 0, 0, 0, 0, 0, start()),
        ):
            self.holds_not(self.table([within]), self.table([*self.WITHINS, within]))

    def test_standings(self):
        for standing in (
            (3, 0, 0, start(REST, REST, REST)), (0, 6, 0, start()), (0, 0, 2, start()), (0, 0, 0, start(REST)), (1, 0, 0, start()),
            (2, 0, 0, start(REST)), (2, 0, 0, start(REST, ("cut", None, (0,)))), (2, 0, 0, start(REST, REST, ("take", 0, ()))),
            (0, 0, 0, start(("give", 0, ()))), (0, 0, 0, start(("take", 2, ()))), (1, 0, 0, (*HELD, ("cut", None, (0,)))),
            (0, 0, 0, ()), (0, 0, 0), [0, 0, 0, start()], (0, 0, 0, start(), 0), (0, 0, 0, list(start())), (0, 0, 0, (0,)),
        ):
            self.holds_not(self.table([], [standing]), self.table(self.WITHINS, [*self.STANDINGS, standing]))

    def test_values_of_other_kinds(self):
        table = self.table(self.WITHINS[1:2], self.STANDINGS[1:2])
        self.holds(table)
        self.holds_not(*STRANGE, *bent(table))

    def test_which_error_comes_first(self):
        for action, more in ((least_table, ()), (is_table, (None,))):
            for value in STRANGE:
                self.fails(InvalidProgram, {"value": value}, action, value, None, *more)
                self.fails(InvalidRow, {"value": value}, action, CALLS, value, *more)
        self.is_true(is_table(value=self.table(), row=ROW, program=CALLS))
        self.same(Machine(CALLS).homes, [0, 1, 0])
