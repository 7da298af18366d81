"""Flows [2a1] to [2a4]."""

from cutruns.errors import InvalidPath, InvalidPlace, InvalidProcedure, InvalidProgram, NoSuchPath, TooMany
from cutruns.flows import Flow
from cutruns.programs import Program
from cutruns.statements import paths_of
from tests.helper import STRANGE, Case

SKIP = ("skip",)
HOLD = ("hold", 0, ())


def flow_of(*bodies):
    return Flow(Program(2, 2, 2, list(bodies), [0]))


class LaidTest(Case):
    def laid(self, body, places, moves):
        """The body as the only one makes so many places and these moves."""
        flow = flow_of(body)
        self.same(flow.places, places)
        self.same(flow.moves(), moves)
        self.same(flow.many_moves, len(moves))

    def test_bodies(self):
        self.laid((), 2, [(0, "step", None, 1)])
        self.laid((SKIP,), 2, [(0, "step", None, 1)])
        self.laid((SKIP, SKIP), 3, [(0, "step", None, 2), (2, "step", None, 1)])
        self.laid((SKIP, ("mark", 4), SKIP), 4, [(0, "step", None, 2), (2, "mark", 4, 3), (3, "step", None, 1)])

    def test_single_moves(self):
        for word, count in (("touch", 1), ("write", 0), ("mark", 9), ("set", 1), ("claim", 0), ("call", 0)):
            self.laid(((word, count),), 2, [(0, word, count, 1)])

    def test_hold(self):
        self.laid((("hold", 1, ()),), 4, [(0, "take", 1, 2), (2, "step", None, 3), (3, "give", 1, 1)])
        self.laid(
            (("hold", 1, (SKIP, ("mark", 0))), SKIP), 6,
            [(0, "take", 1, 3), (3, "step", None, 5), (5, "mark", 0, 4), (4, "give", 1, 2), (2, "step", None, 1)],
        )

    def test_either(self):
        self.laid(
            (("either", (), (SKIP, SKIP)),), 5,
            [(0, "step", None, 2), (2, "step", None, 1), (0, "step", None, 3), (3, "step", None, 4), (4, "step", None, 1)],
        )
        self.laid(
            (("either", (("mark", 0), ("mark", 1)), (("mark", 2),)),), 5,
            [(0, "step", None, 2), (2, "mark", 0, 3), (3, "mark", 1, 1), (0, "step", None, 4), (4, "mark", 2, 1)],
        )

    def test_when(self):
        self.laid(
            (("when", 1, (("mark", 0),), ()), SKIP), 5,
            [(0, "is", 1, 3), (3, "mark", 0, 2), (0, "not", 1, 4), (4, "step", None, 2), (2, "step", None, 1)],
        )

    def test_loop(self):
        self.laid((("loop", ()),), 3, [(0, "step", None, 2), (2, "step", None, 2), (2, "step", None, 1)])
        self.laid(
            (("loop", (("mark", 0), ("mark", 1))),), 4,
            [(0, "step", None, 2), (2, "mark", 0, 3), (3, "mark", 1, 2), (2, "step", None, 1)],
        )

    def test_within_one_another(self):
        self.laid(
            (("loop", (("hold", 0, (("either", (("call", 0),), (("when", 0, (), ()),)),)),)),), 9,
            [
                (0, "step", None, 2), (2, "take", 0, 3), (3, "step", None, 5), (5, "call", 0, 4), (3, "step", None, 6),
                (6, "is", 0, 7), (7, "step", None, 4), (6, "not", 0, 8), (8, "step", None, 4), (4, "give", 0, 2),
                (2, "step", None, 1),
            ],
        )

    def test_procedures(self):
        flow = flow_of((SKIP, ("call", 1)), (), (HOLD,))
        self.same(flow.places, 9)
        self.same(flow.moves(), [
            (0, "step", None, 2), (2, "call", 1, 1), (3, "step", None, 4), (5, "take", 0, 7), (7, "step", None, 8),
            (8, "give", 0, 6),
        ])
        self.same([flow.begin_of(at) for at in range(3)], [0, 3, 5])
        self.same([flow.end_of(at) for at in range(3)], [1, 4, 6])
        self.same([flow.procedure_of(place) for place in range(9)], [0, 0, 0, 1, 1, 2, 2, 2, 2])

    def test_moves_from(self):
        flow = flow_of((("either", (SKIP,), (("loop", ()),)), ("when", 0, (), ())), ())
        for place in range(flow.places):
            self.same(flow.moves_from(place), [at for at, move in enumerate(flow.moves()) if move[0] == place])
        self.same([flow.moves_from(flow.end_of(0)), flow.moves_from(flow.end_of(1))], [[], []])
        ends = [flow.end_of(0), flow.end_of(1)]
        self.is_true(all([flow.moves_from(place) != [] for place in range(flow.places) if place not in ends]))


class PlaceAheadTest(Case):
    BODY = (
        ("hold", 0, (("mark", 0), ("mark", 1))),
        ("either", (("mark", 2),), (("mark", 3), ("mark", 4))),
        ("when", 1, (("mark", 5), ("mark", 6)), (("mark", 7),)),
        ("loop", (("mark", 8), ("hold", 1, (("mark", 9),)))),
    )

    def test_marks_begin_where_their_moves_do(self):
        flow = flow_of((SKIP,), self.BODY)
        marks = {move[2]: move[0] for move in flow.moves() if move[1] == "mark"}
        places = [
            [0, 0, 0], [0, 0, 1], [1, 0, 0], [1, 1, 0], [1, 1, 1], [2, 0, 0], [2, 0, 1], [2, 1, 0], [3, 0, 0], [3, 0, 1, 0, 0],
        ]
        for mark, path in enumerate(places):
            self.same(flow.place_ahead(1, path), marks[mark])
            self.same(flow.place_ahead(1, tuple(path)), marks[mark])

    def test_statements_with_bodies(self):
        flow = flow_of((SKIP,), self.BODY)
        moves = flow.moves()
        self.same(flow.place_ahead(0, [0]), 0)
        self.same(flow.place_ahead(1, [0]), flow.begin_of(1))
        for path, kinds in (([0], ["take"]), ([1], ["step", "step"]), ([2], ["is", "not"]), ([3], ["step"]), ([3, 0, 1], ["take"])):
            place = flow.place_ahead(1, path)
            self.same([moves[number][1] for number in flow.moves_from(place)], kinds)

    def test_every_path_has_a_place_and_no_other(self):
        flow = flow_of((SKIP,), self.BODY)
        paths = paths_of((2, 2, 2, 2), self.BODY)
        for path in paths:
            self.same(flow.procedure_of(flow.place_ahead(1, path)), 1)
        for path in ([4], [0, 0, 2], [0, 1, 0], [1, 0, 1], [1, 2, 0], [2, 2, 0], [3, 1, 0], [0, 0, 0, 0, 0], [10 ** 29]):
            self.fails(NoSuchPath, {"path": path}, flow.place_ahead, 1, path)
        self.fails(NoSuchPath, {"path": (1,)}, flow.place_ahead, 0, (1,))
        self.fails(NoSuchPath, {"path": [0]}, flow_of(()).place_ahead, 0, [0])

    def test_errors(self):
        flow = flow_of((SKIP,), self.BODY)
        for value in (*STRANGE, 2):
            self.fails(InvalidProcedure, {"value": value}, flow.place_ahead, value, None)
        for path in (*STRANGE, (), [0, 0], [True], [-1], [0, False, 0]):
            self.fails(InvalidPath, {"value": path}, flow.place_ahead, 0, path)

    def test_by_name(self):
        flow = flow_of((SKIP,), self.BODY)
        path = [0, 0, 0]
        self.same(flow.place_ahead(path=path, procedure=1), flow.place_ahead(1, [0, 0, 0]))
        self.same(path, [0, 0, 0])


class FlowTest(Case):
    def test_exactly_160_places_and_more(self):
        self.same(flow_of((HOLD,) * 53).places, 160)
        self.same(flow_of((HOLD,) * 52 + (SKIP,) * 3).places, 160)
        for bodies in (((HOLD,) * 53 + (SKIP,),), ((HOLD,) * 54,), ((HOLD,) * 53, ())):
            program = Program(2, 2, 2, list(bodies), [0])
            self.fails(TooMany, {"what": "places", "limit": 160}, Flow, program)

    def test_no_program(self):
        for value in (*STRANGE, Program, Flow, [()]):
            self.fails(InvalidProgram, {"value": value}, Flow, value)

    def test_no_places_and_no_procedures(self):
        flow = flow_of((SKIP,), ())
        for value in (*STRANGE, 4):
            self.fails(InvalidPlace, {"value": value}, flow.moves_from, value)
            self.fails(InvalidPlace, {"value": value}, flow.procedure_of, value)
        for value in (*STRANGE, 2):
            self.fails(InvalidProcedure, {"value": value}, flow.begin_of, value)
            self.fails(InvalidProcedure, {"value": value}, flow.end_of, value)

    def test_told_lists_are_new(self):
        flow = flow_of((SKIP, SKIP))
        flow.moves().clear()
        flow.moves_from(0).append(9)
        self.same([flow.moves(), flow.moves_from(0)], [[(0, "step", None, 2), (2, "step", None, 1)], [0]])

    def test_it_does_not_change(self):
        for name in ("places", "many_moves"):
            with self.assertRaises(AttributeError):
                setattr(flow_of(()), name, 1)

    def test_by_name(self):
        flow = Flow(program=Program(0, 0, 1, [(SKIP, SKIP)], [0]))
        told = [flow.moves_from(place=2), flow.begin_of(procedure=0), flow.end_of(procedure=0), flow.procedure_of(place=2)]
        self.same(told, [[1], 0, 1, 0])
