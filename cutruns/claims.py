"""Claims about programs, whether they are true, and the papers that show it."""

from cutruns.accesses import broken_row, is_like_broken, is_like_race, race_goal
from cutruns.basics import is_tuple_of
from cutruns.errors import InvalidClaim
from cutruns.judges import is_apart, paper_apart
from cutruns.machine import Machine, is_schedule, is_still, replayed
from cutruns.meetings import can_meet, is_meeting, meeting
from cutruns.moments import is_goal, is_row
from cutruns.programs import Program
from cutruns.rows import one_goal
from cutruns.stills import (
    is_moving_paper,
    is_ringless_paper,
    leads_to_ring,
    moving_paper,
    ring_schedule,
    ringless_paper,
    still_schedule,
)

# Each word with its contrary: what is claimed to come, and that it doesn't.
PAIRS = (
    ("meet", "apart"),
    ("comes", "never"),
    ("race", "norace"),
    ("broken", "kept"),
    ("still", "moving"),
    ("ring", "ringless"),
)

# The words whose claims have no thing.
ALONE = ("still", "ring")


def words():
    """The list of the tuples of a word and its contrary."""
    return list(PAIRS)


def _sides(word):
    """The tuple of that of the word and its contrary that claims that something comes, and whether it is the word.

    None for any value that is no word of a claim.
    """
    for comes, never in PAIRS:
        if word == comes or word == never:
            return comes, word == comes
    return None


def is_claim(value):
    """Whether any value is a claim."""
    if not isinstance(value, tuple) or len(value) < 2 or not isinstance(value[1], Program):
        return False
    sides = _sides(value[0])
    if sides is None:
        return False
    comes, _ = sides
    if comes in ALONE:
        return len(value) == 2
    return len(value) == 3 and _is_thing_of(comes, Machine(value[1]), value[2])


def _is_thing_of(comes, machine, value):
    if comes == "meet":
        return is_goal(machine, value)
    if comes == "comes":
        return is_row(machine, value)
    if comes == "race":
        return is_like_race(machine, value)
    return is_like_broken(machine, value)


def _checked_sides(claim):
    """What `_sides` tells of the claim's word."""
    if not is_claim(claim):
        raise InvalidClaim(claim)
    return _sides(claim[0])


def contrary(claim):
    """The contrary of the claim."""
    comes, holds = _checked_sides(claim)
    other = dict(PAIRS)[comes] if holds else comes
    return other, claim[1], *[_copied(thing) for thing in claim[2:]]


def _copied(thing):
    return list(thing) if isinstance(thing, list) else thing


def _row_of(comes, claim):
    """The row that is met exactly if what is claimed comes."""
    _, program, thing = claim
    if comes == "meet":
        return one_goal(program, thing)
    if comes == "race":
        return one_goal(program, race_goal(thing))
    return broken_row(thing) if comes == "broken" else thing


def is_true(claim):
    """Whether the claim is true."""
    comes, holds = _checked_sides(claim)
    return _does_come(comes, claim) == holds


def _does_come(comes, claim):
    if comes == "still":
        return still_schedule(claim[1]) is not None
    if comes == "ring":
        return ring_schedule(claim[1]) is not None
    return can_meet(claim[1], _row_of(comes, claim))


def paper_of(claim):
    """A paper of the claim, None if it isn't true."""
    comes, holds = _checked_sides(claim)
    program = claim[1]
    if comes == "still":
        return still_schedule(program) if holds else moving_paper(program)
    if comes == "ring":
        return ring_schedule(program) if holds else ringless_paper(program)
    row = _row_of(comes, claim)
    if not holds:
        return paper_apart(program, row)
    legs = meeting(program, row)
    return legs if comes == "comes" or legs is None else legs[0]


def is_paper_of(claim, value):
    """Whether any value is a paper of the claim."""
    comes, holds = _checked_sides(claim)
    program = claim[1]
    if comes == "still":
        return _leads_to_still(program, value) if holds else is_moving_paper(program, value)
    if comes == "ring":
        return _is_ring_paper(program, value) if holds else is_ringless_paper(program, value)
    row = _row_of(comes, claim)
    if not holds:
        return is_apart(program, row, value)
    return is_meeting(program, row, value if comes == "comes" else [value])


def _leads_to_still(program, value):
    return is_schedule(program, value) and is_still(program, replayed(program, value))


def _is_ring_paper(program, value):
    return is_tuple_of(value, 2) and leads_to_ring(program, value[0], value[1])
