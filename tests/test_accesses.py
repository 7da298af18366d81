"""What places touch and claim [7b1]."""

import random

from cutruns.accesses import claims_at, touches
from cutruns.errors import InvalidPlace, InvalidProgram
from cutruns.flows import Flow
from cutruns.programs import Program
from cutruns.statements import at_path, paths_of
from tests.helper import STRANGE, Case
from tests.plain import program_of_seed

# 0 -touch 1-> 2 -write 0-> 3 -claim 1-> 4 -step-> 5, 5 -write 1-> 5, 5 -step-> 1.
SOME = Program(0, 2, 2, [(("touch", 1), ("write", 0), ("claim", 1), ("loop", (("write", 1),)))], [0, 0])


class AccessesTest(Case):
    def test_the_flow_is_as_told_above(self):
        self.same(Flow(SOME).moves()[2:], [(3, "claim", 1, 4), (4, "step", None, 5), (5, "write", 1, 5), (5, "step", None, 1)])

    def test_touches(self):
        told = [touches(SOME, place) for place in range(6)]
        self.same(told, [[(1, False)], [], [(0, True)], [], [], [(1, True)]])

    def test_claims(self):
        self.same([claims_at(SOME, place) for place in range(6)], [[], [], [], [1], [], []])

    def test_statement_by_statement(self):
        met = {}
        for seed in range(60):
            program = program_of_seed(random.Random(seed), 1, 12, 2)
            flow, told = Flow(program), {}
            for procedure, body in enumerate(program.bodies()):
                for path in paths_of(program.shape(), body):
                    told[flow.place_ahead(procedure, path)] = at_path(program.shape(), body, path)
            for place in range(flow.places):
                word, *count = told.get(place, ("none",))
                met[word] = True
                self.same(touches(program, place), [(count[0], word == "write")] if word in ("touch", "write") else [])
                self.same(claims_at(program, place), count if word == "claim" else [])
        self.assertLessEqual({"touch", "write", "claim", "none", "hold", "loop"}, set(met))

    def test_new_lists_and_names(self):
        touches(SOME, 0).clear()
        claims_at(SOME, 3).clear()
        self.same([touches(place=0, program=SOME), claims_at(place=3, program=SOME)], [[(1, False)], [1]])

    def test_which_error_comes_first(self):
        for action in (touches, claims_at):
            for value in STRANGE:
                self.fails(InvalidProgram, {"value": value}, action, value, None)
                self.fails(InvalidPlace, {"value": value}, action, SOME, value)
            self.fails(InvalidPlace, {"value": 6}, action, SOME, 6)
