"""Names and commands [9b1], [9b3], [9b4]."""

from cutruns.commands import is_command, is_deed, is_name
from cutruns.readers import program_text
from tests.helper import STRANGE, Case
from tests.test_repairs import SOME

LINES = "locks 1; cells 1; modes 1; threads 0 0; procedure; write 0"
DEEDS = (
    f"program p {LINES}", "goal g 0@2", "row r -", "threads p 0,1", "wrap p 0 0.1.2 3", "unwrap p 0 0", "exchange p 12 0", "mend p 2",
    "copy q p", "drop p",
    "claim k meet p g", "claim k apart p g", "claim k comes p r", "claim k never p r", "claim k race p 0,2,1,2,0", "claim k norace p 0",
    "claim k broken p 0,1,2",
    "claim k kept p 7", "claim k still p", "claim k moving p", "claim k ring p", "claim k ringless p", "forget k",
)
QUESTIONS = (
    "undo", "redo", "state k", "states", "claimed k", "names", "show p", "same p q", "places p", "words p r 0", "ahead p 0 0", "length p g",
    "moments p r", "races p",
    "claims p", "stands p", "rings p", "repairs p 1",
)


class NamesTest(Case):
    def test_names(self):
        for value in ("a", "z9", "abcdefgh", "a1234567", "program", "meet"):
            self.is_true(is_name(value=value))
        for value in (*STRANGE[:6], *STRANGE[7:], "abcdefghi", "a12345678", "9a", "A", "aB", "a b", "a-", "a_b", "a\n", " a", "-", ("a",), ["a"]):
            self.is_false(is_name(value))
        self.is_true(is_name("skips"))


class CommandsTest(Case):
    def test_deeds_and_questions(self):
        for line in DEEDS:
            self.same([is_command(value=line), is_deed(value=line)], [True, True])
        for line in QUESTIONS:
            self.same([is_command(line), is_deed(line)], [True, False])

    def neither(self, *values):
        for value in values:
            self.same([value, is_command(value), is_deed(value)], [value, False, False])

    def test_other_values(self):
        self.neither(*STRANGE, ("undo",), ["undo"], b"undo", "", " ", "Undo", "\n")

    def test_blanks_and_numbers_of_parts(self):
        for line in (*DEEDS, *QUESTIONS):
            self.neither(" " + line, line + " ", line.replace(" ", "  ", 1) if " " in line else line + "  ", line + "\n", line.upper())
            if not line.startswith("program"):
                self.neither(line + " p", " ".join(line.split(" ")[:-1]))
            self.neither(line[1:])
        self.neither("program p", "program", "claim", "claim k", "claim k meets p g", "claim k meet p", "claim k still",
                     "claim k still p g", "claim k race p", "claim meet p g")

    def test_names_and_labels(self):
        for line in ("goal {} 0@0", "row {} -", "threads {} 0", "wrap {} 0 0 0", "unwrap {} 0 0", "exchange {} 0 0", "mend {} 0",
                     "copy {} p", "copy p {}", "drop {}",
                     "forget {}", "state {}", "claimed {}", "show {}", "same {} p", "same p {}", "words p {} 0", "length p {}",
                     "moments p {}", "places {}",
                     "claim {} still p", "claim k still {}", "claim k meet p {}", "claim k never {} r", "repairs {} 0", "program {} " + LINES):
            for name in ("abcdefgh", "z", "a1"):
                self.is_true(is_command(line.format(name)))
            for name in ("abcdefghi", "1a", "Ab", "a.b", "a,b", "", "a-"):
                self.neither(line.format(name))

    def test_counts(self):
        for line in ("wrap p {} 0 0", "wrap p 0 0 {}", "wrap p 0 {} 0", "wrap p 0 0.{}.1 0", "mend p {}", "threads p {}", "threads p 1,{}",
                     "goal g {}@0", "goal g 0@1,2@{}",
                     "row r {}@0", "row r 0@{}", "row r 0@0.{}", "row r {}>0", "row r 0>{}", "row r -!{}>1", "row r -!1>{}",
                     "claim k race p 0,{}", "words p r {}",
                     "ahead p {} 0", "ahead p 0 {}", "repairs p {}"):
            for count in ("0", "7", "10", "999999", "100000"):
                self.is_true(is_command(line.format(count)))
            for count in ("", "00", "01", "1000000", "-1", "+1", "a", "1 ", "1_0", "0x1", "1.", "1,", ",", "@"):
                self.neither(line.format(count))

    def test_lists_of_60_and_61(self):
        for line, part, sign in (("threads p {}", "0", ","), ("claim k race p {}", "1", ","), ("wrap p 0 {} 0", "0", "."),
                                 ("ahead p 0 {}", "3", "."), ("goal g {}", "0@0", ","),
                                 ("row r {}", "0@0", ","), ("row r -/{}", "1>2", ","), ("row r 0@0!{}", "0>0", ",")):
            for many in (1, 2, 60):
                self.is_true(is_command(line.format(sign.join([part] * many))))
            self.neither(line.format(sign.join([part] * 61)), line.format(sign + part), line.format(part + sign),
                         line.format(part + sign * 2 + part), line.format(""))

    def test_goals_and_rows(self):
        for text in ("-", "-/-/-", "0@1", "0@1.2", "0>1", "0@1,1@1.1,2>7", "-!0>1", "-!0>1,0>2/0@1", "0@1!1>1/-/-!0>0", "0>1,0>1", "0>1!0>1"):
            self.is_true(is_deed("row r " + text))
        for text in ("", "/", "-/", "/-", "-/-/-/-", "--", "-,0@1", "0@1,-", "-!", "-!-", "!0>1", "0@1!", "0@1!1@1", "-!0>1!0>1", "0@",
                     "@0", "0@1@2", "0>1>2", "0@1>2", "0@1.2.3",
                     "0@1.", "0@.1", "0>1.2", "0.1@2", "0", "0@1;1@1", "0@1 1@1"):
            self.neither("row r " + text)
        for text in ("0@1.2", "0>1", "-", "0@1/1@1", "0@1!0>1", "0,1", "0@1,,1@1"):
            self.neither("goal g " + text)
        # Whatever is told is kept: threads twice, places that aren't there.
        self.is_true(is_deed("goal g 9@999999,9@0"))

    def test_lines(self):
        text = program_text(SOME)
        self.is_true(is_deed("program p " + "; ".join(text.split("\n")[:-1])))
        for lines in (LINES.replace("; ", ";"), LINES + ";", LINES + "; ", LINES + "; skips", LINES.replace("; ", "\n"),
                      LINES.replace("; procedure", "\nprocedure"), LINES + "\n",
                      LINES.replace("; ", " ; "), LINES.replace("; ", ";  "), "locks 1", LINES.replace("write 0", "write 1"),
                      LINES.replace("locks 1", "locks 01"), LINES + "; hold 0 {",
                      LINES + "; }", LINES.replace("write 0", "call 1"), LINES.replace("0 0", "0 1"), "; " + LINES, LINES + "; skip" * 60):
            self.neither("program p " + lines)
        self.is_true(is_deed("program p " + LINES + "; skip" * 59))
        self.is_true(is_deed("program p " + LINES.replace("; write 0", "")))
