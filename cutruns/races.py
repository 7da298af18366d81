"""Races and broken claims."""

from cutruns.accesses import (
    breaks_claim,
    broken_row,
    claimed_at,
    is_like_broken,
    is_like_race,
    may_race,
    race_goal,
    touched_at,
)
from cutruns.errors import InvalidBroken, InvalidRace
from cutruns.machine import Machine
from cutruns.meetings import meeting
from cutruns.reaches import Pairs, wide_reach
from cutruns.rows import one_goal


class Scene:
    """A program and where its threads can come, which is looked for where it is asked."""

    def __init__(self, program):
        self.source = program
        self.machine = Machine(program)
        self.pairs = Pairs()
        # Of the procedures with which threads begin their reach, and with a place the numbers of the words there.
        self.reaches = {}
        self.words = {}

    def reach_of(self, thread):
        """The reach of the thread."""
        home = self.machine.homes[thread]
        if home not in self.reaches:
            self.reaches[home] = wide_reach(self.source, thread)
        return self.reaches[home]

    def reach_all(self):
        """Look where all threads can come: TooMany if there are too many withins, whatever is asked then."""
        for thread in range(len(self.machine.homes)):
            self.reach_of(thread)

    def _words_at(self, thread, place):
        key = (self.machine.homes[thread], place)
        if key not in self.words:
            self.words[key] = self.pairs.numbers_of(self.reach_of(thread).words_at(place))
        return self.words[key]

    def can_stand(self, thread, place, other, far):
        """Whether both threads can stand there together."""
        return self.pairs.some_agree(self._words_at(thread, place), self._words_at(other, far))

    def can_stand_in(self, thread, place, mode):
        """Whether the thread can stand there in the mode."""
        return mode in self.reach_of(thread).modes_at(place)

    def races_of(self, thread, other):
        """The list of the races of both threads."""
        places = [(place, touched_at(self.machine, place)) for place in range(self.machine.flow.places)]
        touching = [(place, written) for place, written in places if len(written) > 0]
        found = []
        for place, near in touching:
            for far, there in touching:
                cells = [cell for cell in near if may_race(near, there, cell)]
                if len(cells) > 0 and self.can_stand(thread, place, other, far):
                    found.extend([(thread, place, other, far, cell) for cell in cells])
        return found

    def broken_by(self, thread):
        """The tuples of the thread by which claims are broken."""
        machine = self.machine
        claiming = [place for place in range(machine.flow.places) if len(claimed_at(machine, place)) > 0]
        found = []
        for place in claiming:
            for mode in range(machine.many_modes):
                if breaks_claim(machine, place, mode) and self.can_stand_in(thread, place, mode):
                    found.append((thread, place, mode))
        return found


def is_race(program, value):
    """Whether any value is a race of the program."""
    scene = Scene(program)
    if not is_like_race(scene.machine, value):
        return False
    thread, place, other, far, _ = value
    return scene.can_stand(thread, place, other, far)


def races(program):
    """The sorted list of all races of the program."""
    scene = Scene(program)
    scene.reach_all()
    found = []
    for thread, other in _pairs_of_threads(scene):
        found.extend(scene.races_of(thread, other))
    return sorted(found)


def has_race(program):
    """Whether the program has a race."""
    scene = Scene(program)
    for thread, other in _pairs_of_threads(scene):
        if len(scene.races_of(thread, other)) > 0:
            return True
    return False


def _pairs_of_threads(scene):
    many = len(scene.machine.homes)
    return [(thread, other) for thread in range(many) for other in range(thread + 1, many)]


def race_schedule(program, race):
    """A shortest schedule behind which both threads of the race stand there."""
    if not is_race(program, race):
        raise InvalidRace(race)
    return meeting(program, one_goal(program, race_goal(race)))[0]


def is_broken(program, value):
    """Whether a claim of the program is broken by any value."""
    scene = Scene(program)
    if not is_like_broken(scene.machine, value):
        return False
    thread, place, mode = value
    return scene.can_stand_in(thread, place, mode)


def broken_claims(program):
    """The sorted list of all tuples by which claims of the program are broken."""
    scene = Scene(program)
    scene.reach_all()
    found = []
    for thread in range(len(scene.machine.homes)):
        found.extend(scene.broken_by(thread))
    return sorted(found)


def claim_schedule(program, broken):
    """A shortest schedule behind which the thread stands so."""
    if not is_broken(program, broken):
        raise InvalidBroken(broken)
    return meeting(program, broken_row(broken))[0]
