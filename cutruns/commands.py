"""Commands of a desk: which strings are some, and what their parts tell."""

from cutruns.basics import DIGITS, LETTERS
from cutruns.errors import BadText
from cutruns.moments import MOST_LEGS
from cutruns.readers import program_of, program_text

MOST_SIGNS = 8
MOST_DIGITS = 6
MOST_PARTS = 60

# What stands between the lines of a program in a command.
BETWEEN = "; "

# Of each word what its parts are. Names and labels are taken as they are, whatever is kept: "new" is a name under which
# nothing is kept, "fresh" a label that isn't noted, "other" a name of the sort of the one ahead of it.
DEEDS = {
    "program": ("new", "lines"),
    "goal": ("new", "stands"),
    "row": ("new", "legs"),
    "threads": ("program", "counts"),
    "wrap": ("program", "count", "path", "count"),
    "unwrap": ("program", "count", "path"),
    "exchange": ("program", "count", "path"),
    "mend": ("program", "count"),
    "copy": ("new", "name"),
    "drop": ("name",),
    "forget": ("label",),
}

# Of each word of a claim what stands behind it.
CLAIMS = {
    "meet": ("program", "goal"),
    "apart": ("program", "goal"),
    "comes": ("program", "row"),
    "never": ("program", "row"),
    "race": ("program", "counts"),
    "norace": ("program", "counts"),
    "broken": ("program", "counts"),
    "kept": ("program", "counts"),
    "still": ("program",),
    "moving": ("program",),
    "ring": ("program",),
    "ringless": ("program",),
}

QUESTIONS = {
    "undo": (),
    "redo": (),
    "state": ("label",),
    "states": (),
    "claimed": ("label",),
    "names": (),
    "show": ("name",),
    "same": ("name", "other"),
    "places": ("program",),
    "words": ("program", "row", "count"),
    "ahead": ("program", "count", "path"),
    "length": ("program", "goal"),
    "moments": ("program", "row"),
    "races": ("program",),
    "claims": ("program",),
    "stands": ("program",),
    "rings": ("program",),
    "repairs": ("program", "count"),
}


def is_name(value):
    """Whether any value is a name: that of a label is like it."""
    if not isinstance(value, str) or not 1 <= len(value) <= MOST_SIGNS:
        return False
    return value[0] in LETTERS and all([sign in LETTERS or sign in DIGITS for sign in value])


def is_command(value):
    """Whether any value is a string that is a command by its words alone."""
    return command_of(value) is not None


def is_deed(value):
    """Whether any value is a string that is a deed by its words alone."""
    command = command_of(value)
    return command is not None and command.changes


class Command:
    """A command: its line, its word, its parts with what they are, and whether it is a deed.

    Of a claim the claim's own word stands among the parts, behind the label.
    """

    def __init__(self, line, word, kinds, parts):
        self.line = line
        self.word = word
        self.kinds = kinds
        self.parts = parts
        self.changes = word in DEEDS or word == "claim"


def command_of(value):
    """The command that the value is, None for any that is none."""
    if not isinstance(value, str):
        return None
    words = value.split(" ")
    word, rest = words[0], words[1:]
    kinds = _kinds_behind(word, rest)
    if kinds is None:
        return None
    if word == "program":
        rest = [*rest[:1], " ".join(rest[1:])]
    if len(rest) != len(kinds):
        return None
    parts = [_part_of(kind, text) for kind, text in zip(kinds, rest)]
    return Command(value, word, kinds, parts) if all([part is not None for part in parts]) else None


def _kinds_behind(word, rest):
    """What the parts behind the word are, None if it is no word of a command."""
    if word == "claim":
        said = rest[1] if len(rest) > 1 else ""
        return ("fresh", "said", *CLAIMS[said]) if said in CLAIMS else None
    return DEEDS[word] if word in DEEDS else QUESTIONS.get(word)


def claim_parts(text):
    """The word of a claim told by the words behind its label, what its parts are, and these."""
    words = text.split(" ")
    kinds = CLAIMS[words[0]]
    return words[0], kinds, [_part_of(kind, part) for kind, part in zip(kinds, words[1:])]


def _part_of(kind, text):
    """What the text of a part of this kind tells, None if it is none."""
    if kind == "count":
        return _count_of(text)
    if kind == "counts":
        return _several(text, ",", _count_of)
    if kind == "path":
        return _several(text, ".", _count_of)
    if kind == "stands":
        return _several(text, ",", _stand_of)
    if kind == "legs":
        return _row_of(text)
    if kind == "lines":
        return _program_of(text)
    return text if is_name(text) else None


def _count_of(text):
    if not 1 <= len(text) <= MOST_DIGITS or not all([sign in DIGITS for sign in text]):
        return None
    return int(text) if text == "0" or text[0] != "0" else None


def _several(text, sign, reading):
    """The list of what the texts between the signs tell, None if there are too many or one is none."""
    texts = text.split(sign)
    if len(texts) > MOST_PARTS:
        return None
    parts = [reading(part) for part in texts]
    return parts if all([part is not None for part in parts]) else None


def _pair_of(text, sign):
    """The tuple of both COUNTS beside the sign, None if there are no such."""
    counts = _several(text, sign, _count_of)
    return tuple(counts) if counts is not None and len(counts) == 2 else None


def _stand_of(text):
    return _pair_of(text, "@")


def _ban_of(text):
    return _pair_of(text, ">")


def _item_of(text):
    thread, sign, rest = text.partition("@")
    if sign == "":
        pair = _ban_of(text)
        return None if pair is None else (pair[0], "behind", pair[1])
    who = _count_of(thread)
    where = _several(rest, ".", _count_of)
    if who is None or where is None or len(where) > 2:
        return None
    return (who, "at", where[0]) if len(where) == 1 else (who, "in", tuple(where))


def _leg_of(text):
    told, sign, rest = text.partition("!")
    items = [] if told == "-" else _several(told, ",", _item_of)
    bans = [] if sign == "" else _several(rest, ",", _ban_of)
    return None if items is None or bans is None else (tuple(items), tuple(bans))


def _row_of(text):
    legs = _several(text, "/", _leg_of)
    return legs if legs is not None and len(legs) <= MOST_LEGS else None


def _program_of(text):
    # A line feed would be taken for what stands between lines.
    if "\n" in text:
        return None
    try:
        return program_of(text.replace(BETWEEN, "\n") + "\n")
    except BadText:
        return None


def shown_program(program):
    """The lines of the program, as they stand in a command."""
    return BETWEEN.join(program_text(program).split("\n")[:-1])


def shown_counts(counts):
    """The counts, as a list stands in a command."""
    return ",".join([str(count) for count in counts])


def shown_goal(goal):
    """The goal, as it stands in a command."""
    return ",".join([f"{thread}@{place}" for thread, place in goal])


def shown_row(row):
    """The row, as it stands in a command."""
    return "/".join([_shown_leg(items, bans) for items, bans in row])


def _shown_leg(items, bans):
    told = ",".join([_shown_item(*item) for item in items]) if len(items) > 0 else "-"
    if len(bans) == 0:
        return told
    behind = ",".join([f"{thread}>{number}" for thread, number in bans])
    return f"{told}!{behind}"


def _shown_item(thread, word, what):
    if word == "at":
        return f"{thread}@{what}"
    if word == "in":
        return f"{thread}@{what[0]}.{what[1]}"
    return f"{thread}>{what}"
