"""Statements, bodies, sizes and paths [1a1], [1a2], [1a3], and shapes [5]."""

import copy

from cutruns.errors import InvalidBody, InvalidPart, InvalidPath, InvalidShape, NoSuchPath
from cutruns.statements import at_path, calls_in, is_body, is_shape, locks_in, paths_of, size_of, with_path
from tests.helper import STRANGE, Case

SKIP = ("skip",)
WIDE = (4, 4, 4, 6)
NARROW = (0, 0, 1, 1)
MIXED = (
    ("hold", 3, (("touch", 0), ("call", 5), ("loop", (("hold", 1, ()),)))),
    ("either", (("call", 2),), (("write", 1), ("hold", 1, (("call", 2),)))),
    ("when", 3, (), (("set", 1), ("claim", 2), ("mark", 9))),
    SKIP,
)
MIXED_PATHS = [
    [0], [0, 0, 0], [0, 0, 1], [0, 0, 2], [0, 0, 2, 0, 0],
    [1], [1, 0, 0], [1, 1, 0], [1, 1, 1], [1, 1, 1, 0, 0],
    [2], [2, 1, 0], [2, 1, 1], [2, 1, 2],
    [3],
]
ALL_WITH_BODY = (size_of, locks_in, calls_in, paths_of)


def nested(depth, innermost=SKIP):
    """A body whose deepest statement stands so deep."""
    body = (innermost,)
    for _ in range(depth - 1):
        body = (("loop", body),)
    return body


class ShapeTest(Case):
    def test_bounds(self):
        for at, (low, high) in enumerate([(0, 4), (0, 4), (1, 4), (1, 6)]):
            for count in range(low, high + 1):
                self.is_true(is_shape((*NARROW[:at], count, *NARROW[at + 1:])))
            for count in (low - 1, high + 1, True, False, None, "1", (1,), 10 ** 29):
                self.is_false(is_shape((*NARROW[:at], count, *NARROW[at + 1:])))

    def test_only_tuples_of_four(self):
        for value in (*STRANGE, (), (1, 1, 1), (1, 1, 1, 1, 1), [1, 1, 1, 1], "1111", {0: 1, 1: 1, 2: 1, 3: 1}):
            self.is_false(is_shape(value))

    def test_by_name(self):
        self.is_true(is_shape(value=WIDE))


class BodyTest(Case):
    def test_each_kind_of_statement(self):
        for statement in (
            SKIP, ("touch", 3), ("write", 3), ("mark", 9), ("set", 3), ("claim", 3), ("call", 5), ("hold", 3, ()),
            ("either", (), ()), ("when", 3, (), ()), ("loop", ()),
        ):
            self.is_true(is_body(WIDE, (statement,)))
            self.is_false(is_body(WIDE, statement))
            self.is_false(is_body(WIDE, [statement]))
            self.is_false(is_body(WIDE, (list(statement),)))
            self.is_false(is_body(WIDE, ((*statement, 0),)))
            self.is_false(is_body(WIDE, ((*statement, ()),)))
            self.is_false(is_body(WIDE, (statement, statement[:-1])))

    def test_bodies(self):
        for body in ((), (SKIP,), (SKIP, SKIP), MIXED):
            self.is_true(is_body(WIDE, body))

    def test_counts_are_the_shapes(self):
        for word, at in (("hold", 0), ("touch", 1), ("write", 1), ("set", 2), ("claim", 2), ("when", 2), ("call", 3)):
            behind = {"hold": ((),), "when": ((), ())}.get(word, ())
            for many in range(NARROW[at], WIDE[at] + 1):
                shape = (*NARROW[:at], many, *NARROW[at + 1:])
                for count in range(many):
                    self.is_true(is_body(shape, ((word, count, *behind),)))
                for count in (many, -1, None, True, False, "0", (), (0,), [0], 10 ** 29):
                    self.is_false(is_body(shape, ((word, count, *behind),)))

    def test_labels(self):
        for label in range(10):
            self.is_true(is_body(NARROW, (("mark", label),)))
        for label in (10, -1, True, False, None, "1"):
            self.is_false(is_body(NARROW, (("mark", label),)))

    def test_no_locks_and_no_cells(self):
        for statement in (("hold", 0, ()), ("touch", 0), ("write", 0)):
            self.is_false(is_body(NARROW, (statement,)))

    def test_other_values(self):
        for value in STRANGE:
            self.is_false(is_body(WIDE, value))
            self.is_false(is_body(WIDE, (value,)))
            self.is_false(is_body(WIDE, (SKIP, value)))
            self.is_false(is_body(WIDE, ((value,),)))
            for statement in (("hold", 0, value), ("either", (), value), ("either", value, ()), ("loop", value)):
                self.is_false(is_body(WIDE, (statement,)))
            self.is_false(is_body(WIDE, (("when", 0, value, ()),)))
            self.is_false(is_body(WIDE, (("when", 0, (), value),)))
        for statement in (("Skip",), ("skip ",), ("take", 0), ("step",), (b"skip",), ([],), ({},), (), ("loop", [])):
            self.is_false(is_body(WIDE, (statement,)))

    def test_wrong_ones_within_others(self):
        for wrong in (("mark", 10), ("touch", True), ["skip"], None):
            body = (wrong,)
            for outer in (("hold", 0, body), ("either", body, ()), ("either", (), body), ("when", 0, body, ()),
                          ("when", 0, (), body), ("loop", body)):
                self.is_false(is_body(WIDE, (outer,)))

    def test_six_deep_and_seven_deep(self):
        self.is_true(is_body(WIDE, nested(6)))
        self.is_true(is_body(WIDE, nested(6, ("loop", ()))))
        self.is_false(is_body(WIDE, nested(7)))
        self.is_false(is_body(WIDE, nested(8)))
        for outer in (lambda body: ("hold", 0, body), lambda body: ("either", (), body), lambda body: ("either", body, ()),
                      lambda body: ("when", 0, (), body), lambda body: ("when", 0, body, ())):
            self.is_true(is_body(WIDE, (outer(nested(5)),)))
            self.is_false(is_body(WIDE, (outer(nested(6)),)))

    def test_shape_is_checked(self):
        for shape in (*STRANGE, [4, 4, 4, 6], (5, 4, 4, 6), (4, 4, 4, True)):
            self.fails(InvalidShape, {"value": shape}, is_body, shape, ())

    def test_by_name(self):
        self.is_true(is_body(value=(SKIP,), shape=NARROW))


class SizeTest(Case):
    def test_sizes(self):
        for size, body in ((0, ()), (1, (SKIP,)), (1, (("loop", ()),)), (6, nested(6)), (15, MIXED), (70, (SKIP,) * 70)):
            self.same(size_of(WIDE, body), size)

    def test_both_bodies_count(self):
        self.same(size_of(WIDE, (("either", (SKIP,), (SKIP, SKIP)),)), 4)
        self.same(size_of(WIDE, (("when", 0, (SKIP, SKIP), (SKIP,)),)), 4)

    def test_locks_and_calls(self):
        self.same(locks_in(WIDE, MIXED), [1, 3])
        self.same(calls_in(WIDE, MIXED), [2, 5])
        self.same(locks_in(WIDE, (("call", 0),)), [])
        self.same(calls_in(WIDE, (("hold", 0, ()),)), [])
        self.same(locks_in(WIDE, tuple([("hold", lock, ()) for lock in (3, 0, 2, 0)])), [0, 2, 3])
        self.same(calls_in(WIDE, tuple([("call", called) for called in (5, 0, 2, 0)])), [0, 2, 5])

    def test_errors(self):
        for action in ALL_WITH_BODY:
            for shape in STRANGE:
                self.fails(InvalidShape, {"value": shape}, action, shape, None)
            for body in (*STRANGE, [SKIP], (("mark", True),), nested(7)):
                self.fails(InvalidBody, {"value": body}, action, WIDE, body)
            self.fails(InvalidBody, {"value": MIXED}, action, NARROW, MIXED)

    def test_by_name_and_anew(self):
        for action in ALL_WITH_BODY:
            self.same(action(body=MIXED, shape=WIDE), action(WIDE, MIXED))
        for action in (locks_in, calls_in, paths_of):
            told = action(WIDE, MIXED)
            expected = copy.deepcopy(told)
            told.clear()
            self.same(action(WIDE, MIXED), expected)


class PathTest(Case):
    def test_paths(self):
        self.same(paths_of(WIDE, MIXED), MIXED_PATHS)
        self.same(paths_of(WIDE, ()), [])
        self.same(paths_of(WIDE, nested(6))[-1], [0] * 11)
        many = paths_of(WIDE, (SKIP,) * 12 + (("either", (SKIP,) * 11, (SKIP,) * 11),))
        self.same(many, sorted(many))

    def test_paths_are_new_inside_too(self):
        paths_of(WIDE, MIXED)[1].append(7)
        self.same(paths_of(WIDE, MIXED), MIXED_PATHS)

    def test_at_each_path(self):
        found = [at_path(WIDE, MIXED, path) for path in MIXED_PATHS]
        self.same(found[:5], [MIXED[0], ("touch", 0), ("call", 5), ("loop", (("hold", 1, ()),)), ("hold", 1, ())])
        self.same(found[5:10], [MIXED[1], ("call", 2), ("write", 1), ("hold", 1, (("call", 2),)), ("call", 2)])
        self.same(found[10:], [MIXED[2], ("set", 1), ("claim", 2), ("mark", 9), SKIP])
        for path, statement in zip(MIXED_PATHS, found):
            self.same(at_path(WIDE, MIXED, tuple(path)), statement)

    def test_paths_that_are_not_there(self):
        missing = [
            [4], [0, 0, 3], [0, 1, 0], [1, 0, 1], [1, 2, 0], [2, 0, 0], [2, 2, 0], [3, 0, 0], [0, 0, 0, 0, 0],
            [0, 0, 2, 1, 0], [10 ** 29], [1, 10 ** 29, 0], [0] * 13, (4,), (3, 0, 0), [4, 0, 0], [9, 1, 0],
        ]
        for path in missing:
            self.fails(NoSuchPath, {"path": path}, at_path, WIDE, MIXED, path)
            self.fails(NoSuchPath, {"path": path}, with_path, WIDE, MIXED, path, ())
        self.fails(NoSuchPath, {"path": [0]}, at_path, WIDE, (), [0])

    def test_no_paths(self):
        for path in (*STRANGE, [0, 0], (1, 0), (), [True], [False], [0, True, 0], [0, 0, False], [-1], [0, -1, 0], ["0"],
                     [[0]], [None, 0, 0], {0}):
            self.fails(InvalidPath, {"value": path}, at_path, WIDE, MIXED, path)
            self.fails(InvalidPath, {"value": path}, with_path, WIDE, MIXED, path, ())

    def test_which_error_comes_first(self):
        for action, part in ((at_path, ()), (with_path, (None,))):
            self.fails(InvalidShape, {"value": None}, action, None, None, None, *part)
            self.fails(InvalidBody, {"value": None}, action, WIDE, None, None, *part)
            self.fails(InvalidPath, {"value": None}, action, WIDE, MIXED, None, *part)
            self.fails(NoSuchPath, {"path": [9]}, action, WIDE, MIXED, [9], *part)
        self.fails(InvalidPart, {"value": None}, with_path, WIDE, MIXED, [0], None)


class WithPathTest(Case):
    def test_in_its_place(self):
        body = (SKIP, ("mark", 1), ("mark", 2))
        for part in ((), (("mark", 3),), (("mark", 3), ("mark", 4), ("mark", 5))):
            self.same(with_path(NARROW, body, [0], part), part + body[1:])
            self.same(with_path(NARROW, body, (1,), part), body[:1] + part + body[2:])
            self.same(with_path(NARROW, body, [2], part), body[:2] + part)

    def test_within_each_kind(self):
        inner, part = (SKIP, ("mark", 1)), (("mark", 2), ("mark", 3))
        made = (*part, ("mark", 1))
        for path, outer, expected in (
            ([1, 0, 0], ("hold", 2, inner), ("hold", 2, made)),
            ([1, 0, 0], ("loop", inner), ("loop", made)),
            ([1, 0, 0], ("either", inner, inner), ("either", made, inner)),
            ([1, 1, 0], ("either", inner, inner), ("either", inner, made)),
            ([1, 0, 0], ("when", 2, inner, inner), ("when", 2, made, inner)),
            ([1, 1, 0], ("when", 2, inner, inner), ("when", 2, inner, made)),
        ):
            self.same(with_path(WIDE, (SKIP, outer, SKIP), path, part), (SKIP, expected, SKIP))

    def test_statement_by_itself_makes_the_same(self):
        for path in MIXED_PATHS:
            self.same(with_path(WIDE, MIXED, path, (at_path(WIDE, MIXED, path),)), MIXED)

    def test_nothing_makes_smaller(self):
        for path in MIXED_PATHS:
            gone = size_of(WIDE, (at_path(WIDE, MIXED, path),))
            self.same(size_of(WIDE, with_path(WIDE, MIXED, path, ())), 15 - gone)

    def test_wrong_parts(self):
        for part in (*STRANGE, SKIP, [SKIP], (("mark", 10),), (("touch", True),), nested(7)):
            self.fails(InvalidPart, {"value": part}, with_path, WIDE, MIXED, [0], part)
        self.fails(InvalidPart, {"value": (("touch", 0),)}, with_path, NARROW, (SKIP,), [0], (("touch", 0),))

    def test_parts_that_go_too_deep(self):
        self.same(with_path(WIDE, nested(3), [0] * 5, nested(4)), nested(6))
        self.fails(InvalidPart, {"value": nested(5)}, with_path, WIDE, nested(3), [0] * 5, nested(5))
        self.same(with_path(WIDE, nested(6), [0] * 11, (("loop", ()), SKIP)), nested(5, ("loop", (("loop", ()), SKIP))))
        self.fails(InvalidPart, {"value": nested(2)}, with_path, WIDE, nested(6), [0] * 11, nested(2))
        self.same(with_path(WIDE, nested(6), [0], nested(6)), nested(6))

    def test_nothing_passed_changes(self):
        path = [1, 1, 1]
        with_path(WIDE, MIXED, path, (SKIP,))
        at_path(WIDE, MIXED, path)
        self.same(path, [1, 1, 1])

    def test_by_name(self):
        self.same(at_path(path=[3], body=MIXED, shape=WIDE), SKIP)
        self.same(with_path(part=(), path=[0], body=(SKIP,), shape=NARROW), ())
