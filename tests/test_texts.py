"""Written things, and how they are read [9a1] to [9a3]."""

import random
import re

from cutruns.claims import paper_of
from cutruns.ends import ends
from cutruns.errors import InvalidProgram, InvalidSort, InvalidThing, UnreadText
from cutruns.flows import Flow
from cutruns.programs import Program
from cutruns.rows import is_moments
from cutruns.texts import is_of_sort, read, written
from cutruns.words import is_word
from tests.helper import STRANGE, Case, bent
from tests.plain import any_row, programs_and_rows

SORTS = ("schedule", "legs", "goal", "row", "word")
# Places 0 to 3, moves 0 to 2, BACK 3.
SOME = Program(2, 1, 2, [(("hold", 0, (("write", 0),)),)], [0, 0])
THINGS = {
    "schedule": [([], "[]"), ([(0, 0), (1, 3)], "[(0 0) (1 3)]")],
    "legs": [([[]], "[[]]"), ([[(0, 0)], [], [(1, 2), (0, 3)]], "[[(0 0)] [] [(1 2) (0 3)]]")],
    "goal": [([(1, 2)], "[(1 2)]"), ([(1, 0), (0, 3)], "[(1 0) (0 3)]")],
    "row": [([((), ())], "[(() ())]"),
            ([(((1, "at", 2), (0, "in", (3, 1))), ((0, 3), (1, 1))), ((), ()), (((0, "behind", 0),), ())],
             "[(((1 at 2) (0 in (3 1))) ((0 3) (1 1))) (() ()) (((0 behind 0)) ())]")],
    "word": [((("start", None, ()), ("cut", None, ())), "((start - ()) (cut - ()))"),
             ((("start", None, (0, 1)), ("take", 1, (0,)), ("cut", None, ()), ("give", 1, (0,)), ("cut", None, ())),
              "((start - (0 1)) (take 1 (0)) (cut - ()) (give 1 (0)) (cut - ()))")],
}
ATOM = r"(0|[1-9][0-9]*|[a-z]+|-)"


def is_written_thing(text):
    """Whether the text is a written thing, by taking its innermost lists and tuples away, one by one."""
    ahead = None
    while ahead != text:
        ahead = text
        text = re.sub(rf"\[({ATOM}( {ATOM})*)?\]|\(({ATOM}( {ATOM})*)?\)", "-", text, count=1)
    return re.fullmatch(ATOM, text) is not None


def begins_one(text):
    """Whether some written thing begins with the text: what is open is closed, perhaps behind one more value."""
    closing = []
    for sign in text:
        if sign in "[(":
            closing.append("])"["[(".index(sign)])
        elif sign in "])" and closing:
            closing.pop()
    ends = "".join(closing[::-1])
    return any([is_written_thing(text + more + ends) for more in ("", "0")])


def unread(text):
    """The unread position of a text that is no written thing of the sort."""
    for position in range(len(text)):
        if not begins_one(text[:position + 1]):
            return position
    return None if is_written_thing(text) else len(text)


def as_tuples(value):
    return tuple([as_tuples(part) for part in value]) if isinstance(value, (list, tuple)) else value


class WrittenTest(Case):
    def test_things(self):
        for sort, told in THINGS.items():
            for thing, text in told:
                self.same([written(SOME, sort, thing), read(SOME, sort, text)], [text, thing])
                self.is_true(is_of_sort(SOME, sort, thing))
                # Lists are written as lists, also where they are passed as tuples.
                self.is_true(is_of_sort(SOME, sort, as_tuples(thing)))
                self.same(written(SOME, sort, as_tuples(thing)), text)

    def test_one_text_in_several_sorts(self):
        self.same([read(SOME, "schedule", "[(0 2)]"), read(SOME, "goal", "[(0 2)]")], [[(0, 2)], [(0, 2)]])
        self.same([is_of_sort(SOME, sort, [(0, 3), (0, 3)]) for sort in SORTS], [True, False, False, False, False])
        self.same([is_of_sort(SOME, sort, []) for sort in SORTS], [True, False, False, False, False])
        # Schedules need not be ones that can be done.
        self.same(written(SOME, "schedule", [(1, 2), (1, 2)]), "[(1 2) (1 2)]")

    def test_which_values_are_things(self):
        for sort, told in THINGS.items():
            thing = told[1][0]
            self.same([is_of_sort(program=SOME, sort=sort, value=thing), written(value=thing, sort=sort, program=SOME)], [True, told[1][1]])
            for value in (*STRANGE, *bent(thing)):
                if value == [] and sort == "schedule":
                    continue
                holds = {"row": is_moments, "word": is_word}.get(sort)
                if holds is not None:
                    self.same(is_of_sort(SOME, sort, value), holds(SOME, value))
                if value not in (as_tuples(thing), *[row[:1] for row in told[1]]) and not is_of_sort(SOME, sort, value):
                    self.fails(InvalidThing, {"value": value}, written, SOME, sort, value)
        for sort, values in {
            "schedule": ([(2, 0)], [(0, 4)], [(0, 0, 0)], [[0, 0]], [(True, 0)], [(0, False)], [()], ["00"], {(0, 0): 0}, [(0, 0)] * 401),
            "legs": ([], [[], [], [], []], [(0, 0)], [[(2, 0)]], [[(0, 0)] * 200, [(0, 0)] * 201], [{}], [[[0, 0]]]),
            "goal": ([], [(0, 4)], [(0, 1), (0, 2)], [(2, 0)], [[0, 0]], [(0, 0)] * 5),
            "row": ([], [((), ())] * 4, [[(), ()]], [(((0, "at", 4),), ())], [(((0, "on", 1),), ())], [((), ((0, 4),))], [((), (), ())]),
            "word": ((), [], (("start", None, ()),), (("start", None, ()), ("take", 2, ()), ("cut", None, ())),
                     (("start", None, (3,)), ("cut", None, ()))),
        }.items():
            for value in values:
                self.is_false(is_of_sort(SOME, sort, value))
                self.fails(InvalidThing, {"value": value}, written, SOME, sort, value)

    def test_400_events(self):
        for sort, thing in (("schedule", [(0, 0)] * 400), ("legs", [[(0, 0)] * 399, [(1, 1)]])):
            self.is_true(is_of_sort(SOME, sort, thing))
            self.same(read(SOME, sort, written(SOME, sort, thing)), thing)

    def test_of_random_programs(self):
        for told, program, row in programs_and_rows(range(60), (1, 2, 3), (4, 6, 8), any_row):
            self.same(read(program, "row", written(program, "row", row)), row)
            for word in ends(program, 0, row)[:5]:
                self.same(read(program, "word", written(program, "word", word)), word)
            legs = paper_of(("comes", program, row))
            if legs is not None:
                self.same(read(program, "legs", written(program, "legs", legs)), legs)
            many = Flow(program).many_moves + 1
            schedule = [(0, told.randrange(many)) for _ in range(told.randrange(20))]
            self.same(read(program, "schedule", written(program, "schedule", schedule)), schedule)

    def test_no_thing_has_more_than_8000_signs(self):
        # Of a program with as many threads, places and moves as can be, the longest things of each sort.
        program = Program(4, 0, 1, [(("either", (), ()),) * 39, (("hold", 0, ()),) * 9], [0, 0, 1, 0])
        back, places = Flow(program).many_moves, Flow(program).places
        self.same([back > 99, 100 < places <= 160], [True, True])
        items = tuple([(thread, "behind", back) for thread in range(4)])
        longest = {"schedule": [(3, back)] * 400, "legs": [[(3, back)] * 200, [(3, back)] * 100, [(3, back)] * 100],
                   "goal": [(thread, places - 1) for thread in range(4)], "row": [(items, ((3, back),) * 12)] * 3}
        for sort, thing in longest.items():
            text = written(program, sort, thing)
            self.assertLess(len(text), 8000)
            self.same(read(program, sort, text), thing)

    def test_which_error_comes_first(self):
        for action in (is_of_sort, written, read):
            for value in STRANGE:
                self.fails(InvalidProgram, {"value": value}, action, value, None, None)
                self.fails(InvalidSort, {"value": value}, action, SOME, value, None)
            for value in ("claim", "Goal", "goal ", "rows", ("goal",), ["goal"], {"goal": 0}):
                self.fails(InvalidSort, {"value": value}, action, SOME, value, None)


class ReadTest(Case):
    def unread_at(self, sort, text, position):
        self.fails(UnreadText, {"position": position}, read, SOME, sort, text)

    def test_values_of_other_kinds(self):
        for value in STRANGE:
            if not isinstance(value, str):
                self.unread_at("row", value, None)

    def test_signs_that_can_not_stand(self):
        for text, position in (
            (" [(0 0)]", 0), ("[(0  0)]", 4), ("[ (0 0)]", 1), ("[(0 0) ]", 7), ("[(0 0)] ", 7), ("[(0 0))", 6), ("[(0 0]]", 5), ("[(0 00)]", 5),
            ("[(0 01)]", 5), ("[(01 0)]", 3), ("[(0,0)]", 3), ("[(0 0)(1 1)]", 6), ("[(0 0)][", 7), ("(At)", 1), ("[(0 at2)]", 6), ("[(0 2at)]", 5),
            ("[(0 -1)]", 5), ("--", 1), ("-0", 1), ("0-", 1), ("]", 0), (")", 0), (",", 0), ("[(0 0)\n]", 6), ("[(0 0)]\n", 7), ("0 0", 1), ("+1", 0),
            ("[[(0 0)] [] ]", 12), ("()()", 2), ("a1", 1), ("aB", 1), ("[(0 0)}", 6), ("(-a)", 2),
        ):
            for sort in SORTS:
                self.unread_at(sort, text, position)
            self.same(unread(text), position)

    def test_what_lacks(self):
        for text in ("", "[", "(", "[(0 0)", "[(0 0) ", "[(0 0) (1", "[[(0 0)] []", "((start -", "[(((0 at 2)) (", "(" * 300, "[a "):
            self.unread_at("goal", text, len(text))
            self.same(unread(text), len(text))

    def test_written_things_of_another_sort(self):
        for text in ("0", "-", "at", "()", "[()]", "[(0 0 0)]", "((0 0))", "[[0 0]]", "12345678", "9" * 400, "[(0 " + "1" * 7000 + ")]",
                     "[]", "[-]", "(((((())))))"):
            self.unread_at("row", text, None)
            self.unread_at("word", text, None)
            self.same(unread(text), None)
        # A tuple in the place of a list, a list in that of a tuple.
        for sort, text in (("schedule", "((0 0))"), ("schedule", "()"), ("legs", "[()]"), ("legs", "([])"), ("goal", "((0 0))"), ("goal", "[[0 0]]"),
                           ("row", "((() ()))"), ("row", "[[() ()]]"), ("row", "[([] ())]"), ("word", "[(start - ()) (cut - ())]"),
                           ("word", "((start - []) (cut - ()))")):
            self.unread_at(sort, text, None)
        for sort, text in (("schedule", "[(0 4)]"), ("goal", "[(0 0) (0 1)]"), ("goal", "[(0 4)]"), ("row", "[(((0 at 9)) ())]"),
                           ("legs", "[[] [] [] []]"),
                           ("schedule", "[" + " ".join(["(0 0)"] * 401) + "]"), ("goal", "[(1000000000 0)]"), ("goal", "[(0 10000000000000000000)]")):
            self.unread_at(sort, text, None)

    def test_more_than_8000_signs(self):
        text = "[" + " ".join(["(0 0)"] * 1400) + "]"
        self.assertGreater(len(text), 8000)
        self.unread_at("schedule", text, None)
        self.unread_at("schedule", text + "x", len(text))
        self.unread_at("schedule", text[:-1], len(text) - 1)
        self.unread_at("schedule", "1" * 8000, None)
        self.unread_at("goal", "(" * 4000 + ")" * 4000, None)

    def test_each_sign_changed(self):
        told = random.Random(1)
        signs = "[]()  019-atz,A\n"
        for sort, things in THINGS.items():
            for thing, text in things:
                for _ in range(250):
                    at = told.randrange(len(text) + 1)
                    other = told.choice((text[:at], text[:at] + told.choice(signs) + text[at:],
                                         text[:at] + told.choice(signs) + text[at + 1:], text[:at] + text[at + 1:]))
                    try:
                        value = read(SOME, sort, other)
                        self.same([written(SOME, sort, value), is_of_sort(SOME, sort, value)], [other, True])
                    except UnreadText as error:
                        self.same(error.position, unread(other))

    def test_names_and_new_lists(self):
        first = read(text="[[(0 0)] []]", sort="legs", program=SOME)
        first[0].clear()
        self.same(read(SOME, "legs", "[[(0 0)] []]"), [[(0, 0)], []])
