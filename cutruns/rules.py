"""What follows from what, as a thread goes on for a row: the rules of withins and of standings.

A STAND is a tuple (base, phase, place, mode, stem), the stem the number of a piece in a store. The base of a within is
where it began, (procedure, phase, mode), its phase and mode being the late ones; the base of a standing is ().

STEPS are a tuple of what leads from a stand to one that follows: numbers of moves, None for a cut, and a through, told
by its stand.
"""

from cutruns.machine import Machine, mode_lets
from cutruns.moments import Wishes
from cutruns.pieces import CUT, NOTHING, mask_of, piece_of_move
from cutruns.stores import Store


class Rules:
    """The rules for a thread and a row."""

    def __init__(self, program, thread, row):
        self.machine = Machine(program)
        self.home = program.threads()[thread]
        self.wishes = Wishes(row, thread)
        self.many_legs = len(row)
        self.store = Store()
        self.nothing = self.store.number_of(NOTHING)
        self.one_cut = self.store.number_of(CUT)
        flow = self.machine.flow
        # Of each place the mask of the locks that are held around it.
        self.around = [mask_of(flow.locks_around(place)) for place in range(flow.places)]

    def begin_stands(self):
        """The list of the stands of withins that follow from nothing."""
        flow = self.machine.flow
        found = []
        for procedure in range(len(self.machine.ends)):
            for phase in range(self.many_legs):
                for mode in range(self.machine.many_modes):
                    base = (procedure, phase, mode)
                    found.append((base, phase, flow.begin_of(procedure), mode, self.nothing))
        return found

    def first_stand(self):
        """The stand of the standing that follows from nothing."""
        return (), 0, self.machine.flow.begin_of(self.home), 0, self.nothing

    def is_through(self, stand):
        """Whether the stand is a within at the end of its procedure."""
        base, _, place, _, _ = stand
        return base != () and place == self.machine.ends[base[0]]

    def following(self, stand):
        """What follows from the stand without a through: a list of tuples (stand, steps)."""
        _, phase, place, mode, _ = stand
        if phase == self.many_legs:
            return []
        found = []
        if self.wishes.lets_cut(phase, place, mode):
            found.extend(self._cut_behind(stand, ()))
        for number in self.machine.leaving[place]:
            if not self.wishes.is_banned(phase, number):
                later = self._moved(stand, number)
                if later is not None:
                    found.extend(self._with_cuts(later, (number,), number))
        return found

    def _with_cuts(self, stand, steps, number):
        """The stand, and the one with a cut if its leg is to end right behind the number."""
        found = [(stand, steps)]
        if self.wishes.wants_behind(stand[1], number):
            found.extend(self._cut_behind(stand, steps))
        return found

    def _cut_behind(self, stand, steps):
        """The stand with a cut, none for a within that would come to the last one."""
        base, phase, place, mode, stem = stand
        if base != () and phase + 1 == self.many_legs:
            return []
        return [((base, phase + 1, place, mode, self.store.lay(stem, self.one_cut)), (*steps, None))]

    def _moved(self, stand, number):
        """The stand behind the move, None if there is none; calls are gone into by standings alone."""
        base, phase, _, mode, stem = stand
        _, kind, what, far = self.machine.steps[number]
        if kind == "call":
            return None if base != () else (base, phase, self.machine.flow.begin_of(what), mode, stem)
        if not mode_lets(kind, what, mode):
            return None
        if kind == "set":
            return base, phase, far, what, stem
        if kind == "take" and self._held(stand) & mask_of([what]) > 0:
            return None
        later = self.store.lay(stem, self.store.number_of(piece_of_move(kind, what)))
        return None if later is None else (base, phase, far, mode, later)

    def _held(self, stand):
        """The mask of the locks that are held: around the place of a within, by the word of a standing."""
        base, _, place, _, stem = stand
        return self.store.holding[stem] if base == () else self.around[place]

    def calls(self, stand):
        """The calls from the stand to go through: a list of tuples (base, call).

        The base is that of the throughs that may be taken; a call is a tuple of the place to which it goes on, the
        stem ahead of the through, and the steps ahead of it.
        """
        _, phase, place, mode, stem = stand
        if phase == self.many_legs:
            return []
        found = []
        for number in self.machine.leaving[place]:
            _, kind, what, far = self.machine.steps[number]
            if kind == "call" and not self.wishes.is_banned(phase, number):
                found.append(((what, phase, mode), (far, stem, (number,))))
                # Behind the last leg no through begins, so nothing comes of a cut at its end.
                if self.wishes.wants_behind(phase, number):
                    cut = self.store.lay(stem, self.one_cut)
                    found.append(((what, phase + 1, mode), (far, cut, (number, None))))
        return found

    def passed(self, stand, call, through):
        """What follows from the stand by a call of it gone through: a list of tuples (stand, steps)."""
        far, stem, steps = call
        _, phase, _, mode, inner = through
        back = self.machine.back
        if self.wishes.is_banned(phase, back) or self._held(stand) & self.store.touching[inner] > 0:
            return []
        later = self.store.lay(stem, inner)
        if later is None:
            return []
        return self._with_cuts((stand[0], phase, far, mode, later), (*steps, through, back), back)
