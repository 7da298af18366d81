"""What a desk keeps at one time: things under names, and claims under labels with their states.

A THING is a tuple of its sort, "program", "goal" or "row", and of what is kept, a goal and a row as tuples.
"""

from cutruns.claims import is_claim, is_true
from cutruns.commands import claim_parts
from cutruns.errors import TooMany

MOST_NAMES = 8
MOST_LABELS = 8

GONE = "gone"
NAMED = ("program", "goal", "row")


class Page:
    """Things, claims told by the words behind their labels, and the states of these; it never changes."""

    def __init__(self, things, claims, states):
        self.things = things
        self.claims = claims
        self.states = states


def handed(thing):
    """What is kept, as it is handed on: goals and rows as new lists."""
    sort, kept = thing
    return kept if sort == "program" else list(kept)


def with_thing(page, name, thing):
    """The page with the thing under the name."""
    if name not in page.things and len(page.things) >= MOST_NAMES:
        raise TooMany("names", MOST_NAMES)
    return _with_things(page, name, {**page.things, name: thing})


def without_thing(page, name):
    """The page with nothing under the name."""
    return _with_things(page, name, {one: page.things[one] for one in page.things if one != name})


def _with_things(page, name, things):
    """The page with these things, only what is under this name being another one."""
    states = {}
    for label, text in page.claims.items():
        states[label] = state_of_claim(things, text) if name in _names_in(text) else page.states[label]
    return Page(things, page.claims, states)


def _names_in(text):
    """The list of the names that stand in the words of a claim."""
    _, kinds, parts = claim_parts(text)
    return [part for kind, part in zip(kinds, parts) if kind in NAMED]


def claim_on(things, text):
    """The claim that the words tell, with what is kept; None while something that it wants isn't."""
    said, kinds, parts = claim_parts(text)
    claim = [said]
    for kind, part in zip(kinds, parts):
        if kind not in NAMED:
            claim.append(tuple(part))
        elif part in things and things[part][0] == kind:
            claim.append(handed(things[part]))
        else:
            return None
    return tuple(claim)


def state_of_claim(things, text):
    """The state of a label with these words."""
    claim = claim_on(things, text)
    try:
        return shown_state(is_true(claim)) if is_claim(claim) else GONE
    except TooMany:
        return GONE


def shown_state(holds):
    """The state of a label whose claim is true or not."""
    return "true" if holds else "false"


def with_claim(page, label, text, state):
    """The page with the claim noted under the label."""
    if len(page.claims) >= MOST_LABELS:
        raise TooMany("labels", MOST_LABELS)
    return Page(page.things, {**page.claims, label: text}, {**page.states, label: state})


def without_claim(page, label):
    """The page with no claim under the label."""
    claims = {one: page.claims[one] for one in page.claims if one != label}
    return Page(page.things, claims, {one: page.states[one] for one in claims})


def shown_changes(ahead, behind):
    """How states changed from the one page to the other."""
    changed = [label for label in behind.states if ahead.states.get(label) != behind.states[label]]
    return shown_states(behind, changed)


def shown_states(page, labels):
    """The labels with their states."""
    told = ", ".join([f"{label} {page.states[label]}" for label in sorted(labels)])
    return told if told != "" else "-"
