"""Programs as texts, and what line of a text is wrong."""

from cutruns.errors import BadText
from cutruns.programs import MOST_STATEMENTS, MOST_THREADS, Program, check_program
from cutruns.statements import DEEPEST, FORMS, LEAST, MOST, bodies_within, count_limit

# The words of the first lines, each with one COUNT.
HEADS = ("locks", "cells", "modes")

# What stands between the two bodies of a statement.
BETWEEN = {"either": "} or {", "when": "} else {"}


def program_text(program):
    """The text of the program."""
    check_program(program)
    begins = " ".join([str(begin) for begin in program.threads()])
    lines = [f"locks {program.locks}", f"cells {program.cells}", f"modes {program.modes}", f"threads {begins}"]
    for body in program.bodies():
        lines.append("procedure")
        lines.extend(_lines_of_body(body))
    return "".join([line + "\n" for line in lines])


def _lines_of_body(body):
    lines = []
    for statement in body:
        lines.extend(_lines_of(statement))
    return lines


def _lines_of(statement):
    counts, _ = FORMS[statement[0]]
    told = " ".join([str(word) for word in statement[:1 + counts]])
    bodies = bodies_within(statement)
    if len(bodies) == 0:
        return [told]
    lines = [told + " {", *_lines_of_body(bodies[0])]
    for body in bodies[1:]:
        lines.append(BETWEEN[statement[0]])
        lines.extend(_lines_of_body(body))
    return [*lines, "}"]


def program_of(text):
    """The program that has the text."""
    if not isinstance(text, str):
        raise BadText(0)
    lines = text.split("\n")
    last = lines.pop()
    if last != "":
        lines.append(last)
    draft = Draft()
    for line in lines:
        draft.take(line)
    if draft.is_lacking():
        raise BadText(len(lines) + 1)
    if last != "":
        raise BadText(len(lines))
    draft.check_named()
    return draft.program()


def _count_of(word, least, limit):
    """The COUNT from the least one up to the limit, not itself, that the word writes, or None."""
    for count in range(least, limit):
        if word == str(count):
            return count
    return None


class Draft:
    """What the lines of a text that were taken so far tell of a program."""

    def __init__(self):
        self.line = 0
        self.counts = []
        self.begins = []
        self.procedures = []
        # Of each statement that is not closed, what is known of it: all but the body that is read and those behind.
        self.unclosed = []
        # Lists of the statements so far: of the procedure, and of the body that is read of each of these.
        self.around = []
        self.many = 0
        # The lines that name procedures, with each procedure.
        self.named = []

    def take(self, line):
        """Take the next line: BadText with its number if it can't stand here."""
        self.line += 1
        words = line.split(" ")
        if self.line <= len(HEADS):
            self._take_head(words)
        elif self.line == len(HEADS) + 1:
            self._take_threads(words)
        elif words == ["procedure"]:
            self._take_procedure()
        elif words[0] == "}":
            self._take_close(line)
        else:
            self._take_statement(words)

    def _need(self, holds):
        if not holds:
            raise BadText(self.line)

    def _count(self, word, least, limit):
        count = _count_of(word, least, limit)
        self._need(count is not None)
        return count

    def _take_head(self, words):
        at = len(self.counts)
        self._need(len(words) == 2 and words[0] == HEADS[at])
        self.counts.append(self._count(words[1], LEAST[at], MOST[at] + 1))

    def _take_threads(self, words):
        self._need(words[0] == "threads" and 1 <= len(words) - 1 <= MOST_THREADS)
        for word in words[1:]:
            self.begins.append(self._name(word))

    def _name(self, word):
        """The procedure that the word names: whether it is there shows at the end alone."""
        procedure = self._count(word, 0, MOST[3])
        self.named.append((self.line, procedure))
        return procedure

    def _take_procedure(self):
        self._need(len(self.unclosed) == 0 and len(self.procedures) < MOST[3])
        body = []
        self.procedures.append(body)
        self.around = [body]

    def _take_close(self, line):
        self._need(len(self.unclosed) > 0 and line == self._closing())
        body = tuple(self.around.pop())
        known = (*self.unclosed.pop(), body)
        if line == "}":
            self.around[-1].append(known)
        else:
            self.unclosed.append(known)
            self.around.append([])

    def _closing(self):
        """The line that closes the innermost body."""
        known = self.unclosed[-1]
        if len(known) < sum(FORMS[known[0]]):
            return BETWEEN[known[0]]
        return "}"

    def _take_statement(self, words):
        self._need(len(self.procedures) > 0 and words[0] in FORMS)
        self._need(self.many < MOST_STATEMENTS and len(self.unclosed) < DEEPEST)
        self.many += 1
        counts, bodies = FORMS[words[0]]
        behind = ["{"] if bodies > 0 else []
        self._need(len(words) >= 1 + counts and words[1 + counts:] == behind)
        known = (words[0],)
        if counts > 0:
            known = (words[0], self._count_behind(words[0], words[1]))
        if bodies > 0:
            self.unclosed.append(known)
            self.around.append([])
        else:
            self.around[-1].append(known)

    def _count_behind(self, word, told):
        if word == "call":
            return self._name(told)
        return self._count(told, 0, count_limit(self.counts, word))

    def is_lacking(self):
        """Whether lines lack: without the first lines there is no procedure either."""
        return len(self.procedures) == 0 or len(self.unclosed) > 0

    def check_named(self):
        """Raise BadText with the first line that names a procedure that isn't there."""
        for line, procedure in self.named:
            if procedure >= len(self.procedures):
                raise BadText(line)

    def program(self):
        """The program that all lines tell."""
        bodies = [tuple(body) for body in self.procedures]
        return Program(self.counts[0], self.counts[1], self.counts[2], bodies, self.begins)
