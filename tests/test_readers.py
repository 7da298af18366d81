"""Programs and their texts [1b2], and wrong lines [1b3]."""

from cutruns.errors import BadText, InvalidProgram
from cutruns.programs import Program
from cutruns.readers import program_of, program_text
from tests.helper import STRANGE, Case

SKIP = ("skip",)
HEAD = "locks 2\ncells 3\nmodes 2\nthreads 0 1\n"
ALL = Program(2, 3, 2, [
    (
        SKIP, ("touch", 2), ("write", 0), ("mark", 9), ("set", 1), ("claim", 0), ("call", 1),
        ("hold", 1, (("touch", 1), ("hold", 0, ()))),
        ("either", (SKIP, ("mark", 0)), (("either", (), ()), SKIP)),
        ("when", 1, (("set", 0),), (("when", 0, (), (SKIP,)),)),
        ("loop", (("loop", ()), SKIP)),
    ),
    (),
], [0, 1])
ALL_TEXT = HEAD + """procedure
skip
touch 2
write 0
mark 9
set 1
claim 0
call 1
hold 1 {
touch 1
hold 0 {
}
}
either {
skip
mark 0
} or {
either {
} or {
}
skip
}
when 1 {
set 0
} else {
when 0 {
} else {
skip
}
}
loop {
loop {
}
skip
}
procedure
"""


class TextTest(Case):
    def test_there_and_back(self):
        self.same(program_text(ALL), ALL_TEXT)
        self.is_true(program_of(ALL_TEXT) == ALL)
        self.same(program_of(ALL_TEXT).bodies(), ALL.bodies())
        self.same(program_of(ALL_TEXT).threads(), [0, 1])
        self.same(program_of(ALL_TEXT).shape(), (2, 3, 2, 2))

    def test_the_smallest(self):
        text = "locks 0\ncells 0\nmodes 1\nthreads 0\nprocedure\n"
        self.is_true(program_of(text) == Program(0, 0, 1, [()], [0]))
        self.same(program_text(Program(0, 0, 1, [()], [0])), text)

    def test_the_largest(self):
        body = SKIP
        for _ in range(5):
            body = ("loop", (body,))
        program = Program(4, 4, 4, [(body,) * 5, (SKIP,) * 30, (), (), (), ()], [5, 5, 0, 3])
        text = program_text(program)
        self.assertTrue(text.startswith("locks 4\ncells 4\nmodes 4\nthreads 5 5 0 3\nprocedure\nloop {\nloop {\n"))
        self.is_true(program_of(text) == program)

    def test_one_thread_and_four(self):
        for many in range(1, 5):
            program = Program(0, 0, 1, [(), ()], [0, 1, 0, 1][:many])
            self.is_true(program_of(program_text(program)) == program)

    def test_by_name(self):
        self.is_true(program_of(text=program_text(program=ALL)) == ALL)

    def test_no_program(self):
        for value in (*STRANGE, ALL_TEXT, Program):
            self.fails(InvalidProgram, {"value": value}, program_text, value)


class WrongLineTest(Case):
    def wrong(self, text, line):
        self.fails(BadText, {"line": line}, program_of, text)

    def test_no_strings(self):
        for value in (None, True, 0, b"", ALL_TEXT.encode(), [], [ALL_TEXT], (), {}, ALL):
            self.wrong(value, 0)

    def test_first_lines(self):
        for lines, line in (
            ("\n", 1), ("lock 1\n", 1), ("cells 1\n", 1), ("locks\n", 1), ("locks 5\n", 1), ("locks 01\n", 1),
            ("locks  1\n", 1), ("locks 1 \n", 1), (" locks 1\n", 1), ("locks 1 1\n", 1), ("locks -1\n", 1),
            ("locks +1\n", 1), ("locks x\n", 1), ("locks " + "9" * 5000 + "\n", 1), ("Locks 1\n", 1), ("procedure\n", 1),
            ("locks 1\nlocks 1\n", 2), ("locks 4\ncells 5\n", 2), ("locks 0\ncells\n", 2), ("locks 0\n\n", 2),
            ("locks 4\ncells 4\nmodes 5\n", 3), ("locks 4\ncells 4\nmodes 0\n", 3), ("locks 0\ncells 0\nthreads 0\n", 3),
            ("locks 0\ncells 0\nmodes 1\nthreads\n", 4), ("locks 0\ncells 0\nmodes 1\nthreads 0 0 0 0 0\n", 4),
            ("locks 0\ncells 0\nmodes 1\nthreads 6\n", 4), ("locks 0\ncells 0\nmodes 1\nthreads 0 00\n", 4),
            ("locks 0\ncells 0\nmodes 1\nthread 0\n", 4), ("locks 0\ncells 0\nmodes 1\nthreads -1\n", 4),
            ("locks 0\ncells 0\nmodes 1\nthreads 0 \n", 4),
            ("locks 0\ncells 0\nmodes 1\nprocedure\n", 4),
        ):
            self.wrong(lines, line)
            self.wrong(lines + "procedure\n", line)

    def test_behind_the_first_lines(self):
        for last in ("skip", "threads 0", "}", "", "procedures", "procedure ", "procedure 0", "call 0"):
            self.wrong(HEAD + last + "\n", 5)
            self.wrong(HEAD + last + "\nprocedure\n", 5)

    def test_statements(self):
        for last in (
            "", "skips", "skip 0", "skip ", "touch", "touch 3", "touch 0 0", "write 3", "mark 10", "mark -1", "mark 00",
            "set 2", "claim 2", "call 6", "call -1", "touch -1", "call", "call 0 {",
            "hold 2 {", "hold 0", "hold {", "hold 0 { }", "hold 0  {",
            "either", "either 0 {", "when {", "when 2 {", "when 0", "loop", "loop 0 {", "loop  {", "}", "} or {", "} else {",
            "{", "take 0", "step", "locks 2", "touch 2 ", "touch " + "1" * 5000, "}}", "} ", "procedure 1",
        ):
            self.wrong(HEAD + "procedure\n" + last + "\n", 6)
            self.wrong(HEAD + "procedure\nskip\nloop {\n}\n" + last + "\nnonsense\n", 9)
            if last != "":
                self.wrong(HEAD + "procedure\n" + last, 6)

    def test_counts_that_the_first_lines_let(self):
        for last in ("touch 2", "write 2", "mark 9", "set 1", "claim 1", "hold 1 {\n}", "when 1 {\n} else {\n}"):
            self.same(len(program_of(HEAD + "procedure\n" + last + "\nprocedure\n").bodies()[0]), 1)
        narrow = "locks 0\ncells 0\nmodes 1\nthreads 0\nprocedure\n"
        for last in ("touch 0", "write 0", "hold 0 {", "set 1", "claim 1", "when 1 {"):
            self.wrong(narrow + last + "\n", 6)

    def test_closing_something_else(self):
        for first, last in (
            ("hold 0 {", "} or {"), ("hold 0 {", "} else {"), ("loop {", "} or {"), ("loop {", "} else {"),
            ("either {", "}"), ("either {", "} else {"), ("when 0 {", "}"), ("when 0 {", "} or {"),
        ):
            self.wrong(HEAD + f"procedure\n{first}\n{last}\n", 7)
            self.wrong(HEAD + f"procedure\n{first}\nskip\n{last}\n", 8)
        for first, middle in (("either {", "} or {"), ("when 0 {", "} else {")):
            self.wrong(HEAD + f"procedure\n{first}\n{middle}\n{middle}\n", 8)
            self.same(program_of(HEAD + f"procedure\n{first}\n{middle}\n}}\nprocedure\n").shape()[3], 2)

    def test_procedure_within_a_statement(self):
        for around in ("hold 0 {\n", "either {\n", "when 0 {\n", "loop {\n"):
            self.wrong(HEAD + "procedure\n" + around + "procedure\n", 7)
            self.wrong(HEAD + "procedure\n" + around + "skip\nprocedure\n", 8)
        self.wrong(HEAD + "procedure\neither {\n} or {\nprocedure\n", 8)

    def test_six_procedures_and_seven(self):
        self.same(program_of(HEAD + "procedure\n" * 6).shape(), (2, 3, 2, 6))
        self.wrong(HEAD + "procedure\n" * 7, 11)
        self.wrong(HEAD + "procedure\n" * 8, 11)

    def test_sixty_statements_and_one_more(self):
        self.same(len(program_of(HEAD + "procedure\nprocedure\n" + "skip\n" * 60).bodies()[1]), 60)
        self.wrong(HEAD + "procedure\nprocedure\n" + "skip\n" * 61, 67)
        self.wrong(HEAD + "procedure\n" + "skip\n" * 30 + "procedure\n" + "skip\n" * 31, 67)
        self.wrong(HEAD + "procedure\nprocedure\n" + "loop {\n}\n" * 60 + "loop {\n}\n", 127)
        self.wrong(HEAD + "procedure\nloop {\n" + "skip\n" * 60 + "}\n", 66)

    def test_six_deep_and_seven_deep(self):
        self.same(len(program_of(HEAD + "procedure\n" + "loop {\n" * 6 + "}\n" * 6 + "procedure\n").bodies()), 2)
        self.wrong(HEAD + "procedure\n" + "loop {\n" * 7 + "}\n" * 7, 12)
        self.wrong(HEAD + "procedure\n" + "loop {\n" * 6 + "skip\n" + "}\n" * 6, 12)
        self.wrong(HEAD + "procedure\n" + "either {\n} or {\n" * 6 + "skip\n", 18)

    def test_lines_that_lack(self):
        lines = ALL_TEXT.splitlines(keepends=True)
        self.wrong("", 1)
        for many in range(len(lines)):
            text = "".join(lines[:many])
            unclosed = 0
            for line in lines[:many]:
                unclosed += line.endswith("{\n") - line.startswith("}")
            if many < 5 or unclosed > 0:
                self.wrong(text, many + 1)
        self.wrong("locks 0\ncells 0\nmodes 1\nthreads 5\n", 5)
        self.wrong(HEAD + "procedure\ncall 5\nloop {\n", 8)

    def test_no_line_feed_at_the_end(self):
        self.wrong(ALL_TEXT[:-1], len(ALL_TEXT.splitlines()))
        self.wrong("locks 0\ncells 0\nmodes 1\nthreads 0\nprocedure", 5)
        self.wrong("locks 0\ncells 0\nmodes 1\nthreads 0\nprocedure\nskip", 6)

    def test_a_last_piece_is_a_line_that_can_be_wrong(self):
        self.wrong("lock", 1)
        self.wrong("locks 0\ncells", 2)
        self.wrong(HEAD + "procedure\nski", 6)
        self.wrong(HEAD + " ", 5)

    def test_lacking_lines_come_ahead_of_a_lacking_line_feed(self):
        self.wrong("locks 0", 2)
        self.wrong("locks 0\ncells 0", 3)
        self.wrong(HEAD[:-1], 5)
        self.wrong(HEAD + "procedure\nloop {", 7)

    def test_procedures_that_are_not_there(self):
        self.wrong("locks 0\ncells 0\nmodes 1\nthreads 0 1\nprocedure\n", 4)
        self.wrong("locks 0\ncells 0\nmodes 1\nthreads 0\nprocedure\nskip\ncall 1\ncall 2\n", 7)
        self.wrong("locks 0\ncells 0\nmodes 1\nthreads 5\nprocedure\ncall 1\n", 4)
        self.wrong(HEAD + "procedure\nprocedure\nloop {\ncall 2\n}\n", 8)
        self.same(program_of(HEAD + "procedure\ncall 1\nprocedure\n").bodies(), [(("call", 1),), ()])
        six = HEAD + "procedure\ncall 5\n" + "procedure\n" * 4
        self.wrong(six, 6)
        self.same(program_of(six + "procedure\n").bodies()[0], (("call", 5),))

    def test_which_case_comes_first(self):
        lost = "locks 0\ncells 0\nmodes 1\nthreads 3\nprocedure\ncall 4\n"
        self.wrong(lost, 4)
        self.wrong(lost + "skip", 7)
        self.wrong(lost + "loop {", 8)
        self.wrong(lost + "loop {\nwrong", 8)
        self.wrong(lost + "loop {\n", 8)
        self.wrong(lost + "wrong", 7)

    def test_every_line_left_out_put_twice_or_altered(self):
        lines = ALL_TEXT.splitlines(keepends=True)
        for at in range(5):
            self.wrong("".join(lines[:at] + lines[at + 1:]), at + 1 if at < 4 else 5)
        for at in range(4):
            self.wrong("".join(lines[:at + 1] + lines[at:]), at + 2)
        for at in range(len(lines)):
            self.wrong("".join([*lines[:at], "wrong\n", *lines[at:]]), at + 1)
            self.wrong("".join([*lines[:at], lines[at][:-1] + " \n", *lines[at + 1:]]), at + 1)
