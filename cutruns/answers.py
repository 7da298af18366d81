"""What a desk answers to the commands that are no deeds."""

from cutruns.commands import shown_counts, shown_goal, shown_program, shown_row
from cutruns.ends import ends
from cutruns.flows import Flow
from cutruns.meetings import meeting_length
from cutruns.pages import NAMED, handed, shown_states
from cutruns.races import broken_claims, races
from cutruns.repairs import raceless
from cutruns.rows import one_goal
from cutruns.stills import ring_schedule, still_schedule


def answer_of(page, command):
    """The answer to the command, whose names and labels are there as it wants them."""
    word, parts = command.word, command.parts
    if word == "state":
        return page.states[parts[0]]
    if word == "states":
        return shown_states(page, list(page.states))
    if word == "claimed":
        return page.claims[parts[0]]
    if word == "names":
        return _joined(sorted(list(page.things)))
    if word == "show":
        return _shown_thing(page.things[parts[0]])
    if word == "same":
        return _yes_or_no(page.things[parts[0]] == page.things[parts[1]])
    handed_parts = _handed_parts(page, command)
    return _told_of(word, *handed_parts)


def _handed_parts(page, command):
    """The list of the parts, with what is kept under names in their places."""
    parts = []
    for kind, part in zip(command.kinds, command.parts):
        parts.append(handed(page.things[part]) if kind in NAMED else part)
    return parts


def _shown_thing(thing):
    sort, kept = thing
    if sort == "program":
        return shown_program(kept)
    return shown_goal(kept) if sort == "goal" else shown_row(kept)


def _told_of(word, program, *parts):
    """What the function that belongs to the word tells of the program."""
    if word == "places":
        return str(Flow(program).places)
    if word == "words":
        row, thread = parts
        return str(len(ends(program, thread, row)))
    if word == "ahead":
        return str(Flow(program).place_ahead(*parts))
    if word == "length":
        return _shown_length(meeting_length(program, one_goal(program, *parts)))
    if word == "moments":
        return _shown_length(meeting_length(program, *parts))
    if word == "races":
        return _joined([shown_counts(race) for race in races(program)])
    if word == "claims":
        return _joined([shown_counts(broken) for broken in broken_claims(program)])
    if word == "stands":
        return _yes_or_no(still_schedule(program) is not None)
    if word == "rings":
        return _yes_or_no(ring_schedule(program) is not None)
    return str(len(raceless(program, *parts)))


def _joined(words):
    return " ".join(words) if len(words) > 0 else "-"


def _yes_or_no(holds):
    return "yes" if holds else "no"


def _shown_length(length):
    return "-" if length is None else str(length)
