"""What the deeds of a desk do to its page."""

from cutruns.claims import is_true
from cutruns.errors import NoRepair
from cutruns.pages import NAMED, claim_on, shown_state, with_claim, with_thing, without_claim, without_thing
from cutruns.programs import with_threads
from cutruns.repairs import exchanged, raceless, repaired, unwrapped, wrapped


def page_behind(page, command):
    """The page behind the deed, whose names and labels are there as it wants them."""
    word, parts = command.word, command.parts
    # The deeds that keep what they tell have its sort as their words.
    if word in NAMED:
        return with_thing(page, parts[0], (word, parts[1] if word == "program" else tuple(parts[1])))
    if word == "copy":
        return with_thing(page, parts[0], page.things[parts[1]])
    if word == "drop":
        return without_thing(page, parts[0])
    if word == "claim":
        return _with_claim(page, parts[0], command.line.split(" ", 2)[2])
    if word == "forget":
        return without_claim(page, parts[0])
    _, program = page.things[parts[0]]
    return with_thing(page, parts[0], ("program", _remade(word, program, parts[1:])))


def _with_claim(page, label, text):
    return with_claim(page, label, text, shown_state(is_true(claim_on(page.things, text))))


def _remade(word, program, parts):
    """The program as the deed makes it."""
    if word == "threads":
        return with_threads(program, *parts)
    if word == "wrap":
        return wrapped(program, *parts)
    if word == "unwrap":
        return unwrapped(program, *parts)
    if word == "exchange":
        return exchanged(program, *parts)
    found = raceless(program, *parts)
    if len(found) == 0:
        raise NoRepair()
    return repaired(program, found[0])
