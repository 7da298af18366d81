"""What the document promises over several functions together: conventions [2], guarantees [4], texts to desks."""

import copy
import importlib
import inspect
import random

from cutruns.accesses import claims_at, touches
from cutruns.callings import reached
from cutruns.claims import contrary, is_paper_of, is_true, paper_of
from cutruns.crowds import crowd_of, meet_in_crowd, ring_in_crowd
from cutruns.desk import Desk, tried
from cutruns.ends import ends, run_to
from cutruns.errors import HoldError, InvalidProgram, TooMany
from cutruns.flows import Flow
from cutruns.judges import is_apart, paper_apart
from cutruns.machine import begin_state, events, is_still, replayed
from cutruns.meetings import can_meet, is_meeting, meeting, meeting_length
from cutruns.orders import agree, bar_of, order_of
from cutruns.programs import Program, with_threads
from cutruns.races import broken_claims, is_race, race_schedule, races
from cutruns.readers import program_of, program_text
from cutruns.repairs import is_helping, raceless, repaired, wrapped
from cutruns.rows import one_goal, row_threads
from cutruns.statements import paths_of
from cutruns.stills import is_ring, moving_paper, ring_schedule, ringless_paper, still_schedule
from cutruns.tables import least_table
from cutruns.texts import read, written
from cutruns.throughs import throughs
from cutruns.torn import is_torn, pulls, torn_pairs, torn_row
from cutruns.weaving import apart, woven
from cutruns.words import word_of
from tests.helper import STRANGE, Case, bent
from tests.plain import any_row, met_row, program_of_seed, programs_and_rows
from tests.test_interface import LISTED

# Two threads that take both locks the one way and the other way round, and touch a cell within, and a mode.
SOME = Program(2, 1, 2, [
    (("hold", 0, (("hold", 1, (("write", 0),)), ("set", 1))), ("claim", 0)),
    (("hold", 1, (("hold", 0, (("touch", 0),)),)), ("touch", 0)),
], [0, 1])
ROW = [(((0, "behind", 1),), ((1, 0),)), (((1, "at", 9), (0, "in", (1, 1))), ())]


def arguments():
    """Of each name of a parameter a value of the stated kind, all for one program."""
    table = least_table(SOME, ROW)
    word = ends(SOME, 0, ROW)[0]
    words = [ends(SOME, thread, ROW)[0] for thread in (0, 1)]
    legs = meeting(SOME, ROW)
    runs = [(thread, run_to(SOME, thread, ROW, word)) for thread, word in zip((0, 1), words)]
    return {
        "program": SOME, "row": ROW, "goal": [(0, 2), (1, 9)], "thread": 0, "other": 1, "place": 2, "move": 1, "far": 7,
        "state": begin_state(SOME), "word": word,
        "words": words, "procedure": 0, "path": [0], "lock": 0, "table": table, "legs": legs, "schedule": sum(legs, []), "runs": runs,
        "kinds": [0, 1],
        "places": [(0, 2), (1, 9)], "cell": 0, "wraps": [(0, (0,), 0)], "most": 0, "threads": [0, 1], "shape": SOME.shape(), "body": SOME.bodies()[0],
        "part": (("skip",),), "deep": 1, "leg": 0, "race": races(SOME)[0], "broken": broken_claims(SOME)[0], "torn": (0, 1, 2, 1, 6, None),
        "sort": "row",
        "claim": ("comes", SOME, ROW), "through": throughs(SOME, 0, ROW)[0], "event": (0, 0), "text": program_text(SOME),
    }


PIECE = (("start", None, ()),)
# Where a function wants another value under the same name.
OTHERS = {
    "word_of": {"runs": [[0, 1]]}, "state_of": {"runs": [[0, 1]]}, "pieces_of": {"runs": [[0, 1]]}, "then_word": {"word": PIECE, "other": PIECE},
    "read": {"text": written(SOME, "row", ROW)}, "written": {"value": ROW}, "tried": {"desk": Desk(), "action": len}, "exchanged": {"procedure": 1},
}


def given(name, action):
    """The arguments of the function by their names, but for one of any value."""
    told = {**arguments(), **OTHERS.get(name, {})}
    return {one: told[one] for one in inspect.signature(action).parameters if one in told}


def functions():
    """Each function of the interface, with its name."""
    for file in LISTED:
        module = importlib.import_module("cutruns." + file)
        for name, thing in vars(module).items():
            if inspect.isfunction(thing) and thing.__module__ == module.__name__ and name + "(" in LISTED[file]:
                yield name, thing


class ConventionsTest(Case):
    def test_judges_let_each_value_through(self):
        many = 0
        for name, action in functions():
            if "value" in inspect.signature(action).parameters and name != "written":
                told = given(name, action)
                for value in (*STRANGE, *bent(([(0, 1)], (((0, "at", 1),), ())))):
                    self.assertIsInstance(action(value=value, **told), bool, name)
                many += 1
        self.assertGreater(many, 25)

    def test_each_call_by_names_twice_changes_nothing(self):
        many = 0
        for name, action in functions():
            if "value" not in inspect.signature(action).parameters or name == "written":
                told = given(name, action)
                ahead = copy.deepcopy({one: told[one] for one in told if not isinstance(told[one], (Program, Desk))})
                first, second = action(**told), action(*told.values())
                self.assertEqual({one: told[one] for one in ahead}, ahead, name)
                if not isinstance(first, (Program, Flow)):
                    self.assertEqual(first, second, name)
                    # What is told is new, also inside.
                    spoil(first)
                    self.assertEqual(action(**told), second, name)
                many += 1
        self.assertGreater(many, 60)

    def test_no_program(self):
        for name, action in functions():
            names = list(inspect.signature(action).parameters)
            if names[:1] == ["program"] and name != "Program":
                for value in STRANGE:
                    self.fails(InvalidProgram, {"value": value}, action, value, *[None] * (len(names) - 1))

    def test_lists_and_tuples(self):
        # Where the text says list a tuple is let, too, with the same answer.
        for name, action in functions():
            if "value" not in inspect.signature(action).parameters or name == "written":
                told = given(name, action)
                others = {one: tuple(told[one]) if isinstance(told[one], list) else told[one] for one in told}
                first, second = action(**told), action(**others)
                if not isinstance(first, (Program, Flow)) and name != "contrary":
                    self.assertEqual(repr(first), repr(second), name)

    def test_true_is_no_1(self):
        for value in ((True, 3, 1, 8, 0), (0, True, 1, 8, 0), (0, 3, True, 8, 0), (0, 3, 1, 8, False)):
            self.is_false(is_race(SOME, value))
        for value in ((False, 1, 2, 1, 6, None), (0, 1, 2, True, 6, None), (0, 1, 2, 1, 6, False)):
            self.is_false(is_torn(SOME, value))
        for action, more in ((touches, (True,)), (claims_at, (False,)), (pulls, (False,)), (raceless, (True,)), (crowd_of, ([True],)),
                             (meet_in_crowd, ([(0, True)],)),
                             (wrapped, (False, [0], 0)), (wrapped, (0, [False], 0)), (wrapped, (0, [0], False)),
                             (torn_row, ((0, 1, 2, 1, True, None),)),
                             (reached, (False,)), (one_goal, ([(0, False)],))):
            with self.assertRaises(HoldError):
                action(SOME, *more)


def spoil(value):
    """Empty all lists in the value."""
    if isinstance(value, (list, tuple)):
        for part in value:
            spoil(part)
    if isinstance(value, list):
        value.clear()


class GuaranteesTest(Case):
    def test_rows_and_papers(self):
        for kind in (any_row, met_row):
            for _, program, row in programs_and_rows(range(40), (1, 2, 3), (4, 6), kind):
                legs, paper = meeting(program, row), paper_apart(program, row)
                self.same([legs is None, can_meet(program, row)], [paper is not None, legs is not None])
                if legs is None:
                    self.is_true(is_apart(program, row, paper))
                else:
                    self.is_true(is_meeting(program, row, legs))
                    self.is_false(is_apart(program, row, least_table(program, row)))
                    # It comes apart into runs whose words agree, and which are woven again.
                    runs = apart(program, legs)
                    found = [word_of(program, thread, run) for thread, run in runs]
                    self.same([agree(found), bar_of(found), order_of(found) is None], [True, None, False])
                    self.same(sum([len(leg) for leg in woven(program, runs)]), meeting_length(program, row))
                    for thread, run in runs:
                        if thread in row_threads(row=row, program=program):
                            self.assertIn(word_of(program, thread, run), ends(program, thread, row))

    def test_stills_and_rings(self):
        for seed in range(60):
            program = program_of_seed(random.Random(seed), 2, 6)
            still, ring = still_schedule(program), ring_schedule(program)
            self.same([moving_paper(program) is None, ringless_paper(program) is None], [still is not None, ring is not None])
            if still is not None:
                state = replayed(program, still)
                self.same([events(program, state), is_still(program, state)], [[], True])
                self.assertLessEqual(len(ring[0]), len(still))
            if ring is not None:
                self.is_true(is_ring(program, replayed(program, ring[0]), ring[1]))
                self.assertLessEqual(len(ring_in_crowd(program)[0]), len(ring[1]))

    def test_repairs(self):
        helped = 0
        for seed in range(40):
            program = program_of_seed(random.Random(seed), 2, 4, 1)
            try:
                for wraps in raceless(program, 1):
                    made = repaired(program, wraps)
                    self.same([races(made), ring_schedule(made), is_helping(made, [])], [[], None, True])
                    helped += len(wraps)
                    for thread, place, other, far, _ in races(program):
                        # Neither does any schedule of the repaired program come to a race by another place.
                        self.same(can_meet(program, one_goal(program, [(thread, place), (other, far)])), True)
            except TooMany:
                pass
        self.assertGreater(helped, 3)

    def test_torn_pairs_and_rows(self):
        for seed in range(40):
            program = program_of_seed(random.Random(seed), 2, 6, 1)
            if len(pulls(program, 0)) <= 20:
                self.same(torn_pairs(program, 0), [torn for torn in pulls(program, 0) if can_meet(program, torn_row(program, torn))])


class TogetherTest(Case):
    def test_from_a_text_to_the_desk(self):
        for seed in range(30):
            told = random.Random(seed)
            program = program_of_seed(told, 2, 5, 1)
            program = program_of(program_text(program))
            desk = Desk()
            desk.do("program p " + "; ".join(program_text(program).splitlines()))
            self.is_true(desk["p"] == program)
            self.same(desk.do("races p"), " ".join([",".join(map(str, race)) for race in races(program)]) or "-")
            self.same(desk.do("stands p"), "no" if still_schedule(program) is None else "yes")
            for at, race in enumerate(races(program)[:3]):
                self.same(desk.do(f"claim r{at} race p " + ",".join(map(str, race))), f"r{at} true")
                desk.attach(f"r{at}", race_schedule(program, race))
                self.is_true(desk.fits(f"r{at}"))
            # The repaired program is judged as any other one.
            found = raceless(program, 1) if len([path for body in program.bodies() for path in paths_of(program.shape(), body)]) < 20 else []
            if found and found[0]:
                changes = desk.do("mend p 1")
                self.is_true(desk["p"] == repaired(program, found[0]))
                self.same([desk.do("races p"), desk.do("rings p")], ["-", "no"])
                self.same([desk.fits(label) for label in desk.labels], [False] * len(desk.labels))
                self.assertNotIn("true", changes)
                desk.do("undo")
            self.same([desk.fits(label) for label in desk.labels], [True] * len(desk.labels))

    def test_things_are_written_and_judged(self):
        for _, program, row in programs_and_rows(range(40), (1, 2), (4, 6), met_row):
            row = read(program, "row", written(program, "row", row))
            legs = meeting(program, row)
            claim = ("comes", program, row)
            if legs is not None:
                self.is_true(is_paper_of(claim, read(program, "legs", written(program, "legs", legs))))
            else:
                self.is_true(is_paper_of(contrary(claim), paper_of(contrary(claim))))

    def test_a_desk_tries_repairs(self):
        desk = Desk()
        desk.do_all("program p locks 1; cells 1; modes 1; threads 0 1; procedure; write 0; procedure; touch 0", "claim k race p 0,0,1,2,0",
                    "claim r ringless p")
        self.same([race[1:4:2] for race in races(desk["p"])], [(0, 2)])
        self.same(tried(desk, lambda held: [held.do("mend p 2"), held.do("races p"), held.do("states")]), ["k gone", "-", "k gone, r true"])
        self.same([desk.do("states"), desk.do("repairs p 2"), len(desk)], ["k true, r true", "1", 3])
        self.is_true(is_true(desk.claim_of("k")))
