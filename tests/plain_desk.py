"""A desk told plainly: every command anew from all that was done, and every state from all that is kept."""

from cutruns import errors
from cutruns.claims import is_claim, is_true
from cutruns.ends import ends
from cutruns.flows import Flow
from cutruns.meetings import meeting_length
from cutruns.programs import with_threads
from cutruns.races import broken_claims, races
from cutruns.readers import program_of, program_text
from cutruns.repairs import exchanged, raceless, repaired, unwrapped, wrapped
from cutruns.rows import one_goal
from cutruns.stills import ring_schedule, still_schedule

WANTS = {
    "program": "N*", "goal": "N*", "row": "N*", "threads": "p*", "wrap": "p***", "unwrap": "p**", "exchange": "p**", "mend": "p*",
    "copy": "Nn", "drop": "n",
    "forget": "k", "undo": "", "redo": "", "state": "k", "states": "", "claimed": "k", "names": "", "show": "n", "same": "no",
    "places": "p", "words": "pr*",
    "ahead": "p**", "length": "pg", "moments": "pr", "races": "p", "claims": "p", "stands": "p", "rings": "p", "repairs": "p*",
    "meet": "pg", "apart": "pg", "comes": "pr", "never": "pr", "race": "p*", "norace": "p*", "broken": "p*", "kept": "p*", "still": "p",
    "moving": "p", "ring": "p",
    "ringless": "p",
}
SORTS = {"p": "program", "g": "goal", "r": "row"}


def counts(text, sign=","):
    return [int(count) for count in text.split(sign)]


def goal_of(text):
    return [tuple(counts(one, "@")) for one in text.split(",")]


def item_of(text):
    if ">" in text:
        thread, number = counts(text, ">")
        return thread, "behind", number
    thread, where = text.split("@")
    where = counts(where, ".")
    return (int(thread), "at", where[0]) if len(where) == 1 else (int(thread), "in", tuple(where))


def row_of(text):
    legs = []
    for leg in text.split("/"):
        told, _, bans = leg.partition("!")
        items = () if told == "-" else tuple([item_of(one) for one in told.split(",")])
        legs.append((items, tuple([tuple(counts(one, ">")) for one in bans.split(",")]) if bans else ()))
    return legs


def shown(sort, kept):
    if sort == "program":
        return "; ".join(program_text(kept).splitlines())
    if sort == "goal":
        return ",".join([f"{thread}@{place}" for thread, place in kept])
    told = {"at": "{}@{}", "in": "{}@{}.{}", "behind": "{}>{}"}
    legs = []
    for items, bans in kept:
        leg = ",".join([told[word].format(one, *(what if isinstance(what, tuple) else (what,))) for one, word, what in items]) or "-"
        legs.append(leg + ("!" if bans else "") + ",".join([f"{thread}>{number}" for thread, number in bans]))
    return "/".join(legs)


class PlainDesk:
    """What the document tells of a desk, without a thought of speed."""

    def __init__(self, done=(), undone=()):
        self.done, self.undone = list(done), list(undone)
        self.things, self.claims = {}, {}
        for line in self.done:
            self.change(line.split(" "))

    def claim(self, words):
        """The claim of these words, None while something isn't there."""
        told = [words[0]]
        for want, word in zip(WANTS[words[0]], words[1:]):
            if want == "*":
                told.append(tuple(counts(word)))
            elif self.things.get(word, (None,))[0] == SORTS[want]:
                told.append(self.things[word][1])
            else:
                return None
        return tuple(told)

    def state(self, label):
        claim = self.claim(self.claims[label])
        if claim is None or not is_claim(claim):
            return "gone"
        try:
            return str(is_true(claim)).lower()
        except errors.TooMany:
            return "gone"

    def states(self):
        return {label: self.state(label) for label in sorted(self.claims)}

    def check(self, words):
        """The errors of names and labels, in their sequence."""
        wants, parts = (WANTS[words[0]], words[1:]) if words[0] != "claim" else ("L*" + WANTS[words[2]], words[1:])
        told = list(zip(wants, parts))
        for want, word in told:
            if want == "N" and word in self.things:
                raise errors.NameTaken(word)
            if want == "L" and word in self.claims:
                raise errors.LabelTaken(word)
        for want, word in told:
            sort = self.things.get(word, (None,))[0]
            if want == "o":
                want = {"program": "p", "goal": "g", "row": "r"}[self.things[words[1]][0]]
            if want == "n" and sort is None or want in SORTS and sort != SORTS[want]:
                raise errors.UnknownName(word)
        for want, word in told:
            if want == "k" and word not in self.claims:
                raise errors.UnknownLabel(word)

    def change(self, words):
        """Do what a deed does."""
        word, name, rest = words[0], words[1], words[2:]
        kept = self.things.get(name, (None, None))[1]
        if word == "program":
            self.keep(name, "program", program_of(" ".join(rest).replace("; ", "\n") + "\n"))
        elif word in ("goal", "row"):
            self.keep(name, word, (goal_of if word == "goal" else row_of)(rest[0]))
        elif word == "threads":
            self.keep(name, "program", with_threads(kept, counts(rest[0])))
        elif word in ("wrap", "unwrap", "exchange"):
            make = {"wrap": wrapped, "unwrap": unwrapped, "exchange": exchanged}[word]
            self.keep(name, "program", make(kept, int(rest[0]), counts(rest[1], "."), *map(int, rest[2:])))
        elif word == "mend":
            found = raceless(kept, int(rest[0]))
            if not found:
                raise errors.NoRepair()
            self.keep(name, "program", repaired(kept, found[0]))
        elif word == "copy":
            self.keep(name, *self.things[rest[0]])
        elif word == "drop":
            del self.things[name]
        elif word == "forget":
            del self.claims[name]
        else:
            claim = self.claim(rest)
            if not is_claim(claim):
                raise errors.InvalidClaim(claim)
            is_true(claim)
            if len(self.claims) == 8:
                raise errors.TooMany("labels", 8)
            self.claims[name] = rest

    def keep(self, name, sort, kept):
        if name not in self.things and len(self.things) == 8:
            raise errors.TooMany("names", 8)
        self.things[name] = (sort, kept)

    def answer(self, line):
        """The plain desk behind the command, and the answer."""
        words = line.split(" ")
        self.check(words)
        if words[0] == "undo":
            if not self.done:
                raise errors.NothingToUndo()
            return PlainDesk(self.done[:-1], [*self.undone, self.done[-1]]), self.done[-1]
        if words[0] == "redo":
            if not self.undone:
                raise errors.NothingToRedo()
            return PlainDesk([*self.done, self.undone[-1]], self.undone[:-1]), self.undone[-1]
        if words[0] in ("program", "goal", "row", "threads", "wrap", "unwrap", "exchange", "mend", "copy", "drop", "claim", "forget"):
            later = PlainDesk(self.done)
            later.change(words)
            if len(self.done) == 200:
                raise errors.TooMany("deeds", 200)
            later = PlainDesk([*self.done, line])
            ahead, behind = self.states(), later.states()
            return later, ", ".join([f"{label} {state}" for label, state in behind.items() if ahead.get(label) != state]) or "-"
        return self, self.told(words[0], words[1:])

    def told(self, word, parts):
        kept = [self.things.get(part, (None, part))[1] for part in parts]
        if word == "state":
            return self.state(parts[0])
        if word == "states":
            return ", ".join([f"{label} {state}" for label, state in self.states().items()]) or "-"
        if word == "claimed":
            return " ".join(self.claims[parts[0]])
        if word == "names":
            return " ".join(sorted(self.things)) or "-"
        if word == "show":
            return shown(*self.things[parts[0]])
        if word == "same":
            return "yes" if kept[0] == kept[1] else "no"
        return self.told_of(word, *kept)

    def told_of(self, word, program, *parts):
        length = {"length": lambda goal: meeting_length(program, one_goal(program, goal)), "moments": lambda row: meeting_length(program, row)}
        if word in length:
            found = length[word](*parts)
            return "-" if found is None else str(found)
        if word in ("races", "claims"):
            return " ".join([",".join([str(count) for count in one]) for one in (races if word == "races" else broken_claims)(program)]) or "-"
        if word in ("stands", "rings"):
            return "no" if (still_schedule if word == "stands" else ring_schedule)(program) is None else "yes"
        if word == "places":
            return str(Flow(program).places)
        if word == "words":
            return str(len(ends(program, int(parts[1]), parts[0])))
        if word == "ahead":
            return str(Flow(program).place_ahead(int(parts[0]), counts(parts[1], ".")))
        return str(len(raceless(program, int(parts[0]))))
