"""What the rows of a table ask for, word by word as [7a2] tells it."""

from cutruns.flows import Flow
from cutruns.machine import blocks_at
from cutruns.words import then_word

NOTHING = (("start", None, ()),)
CUT = (("start", None, ()), ("cut", None, ()))


def then(*pieces):
    """The pieces, one put behind the other, None if there is none."""
    whole = NOTHING
    for piece in pieces:
        whole = None if whole is None or piece is None else then_word(whole, piece)
    return whole


def locks(piece):
    return {lock for _, lock, _ in piece if lock is not None} | {lock for _, _, used in piece for lock in used}


def held_by(word):
    held = []
    for edge, lock, _ in word:
        if edge == "take":
            held.append(lock)
        if edge == "give" and held:
            held.pop()
    return held


class Asked:
    """The rows that a table asks for, for one thread."""

    def __init__(self, program, thread, row):
        self.program, self.thread, self.row = program, thread, row
        self.flow, self.legs = Flow(program), len(row)
        self.back = self.flow.many_moves

    def item(self, leg):
        """The thread's item of the leg without the thread, None if there is none."""
        return ([item[1:] for item in self.row[leg][0] if item[0] == self.thread] or [None])[0]

    def banned(self, leg, number):
        return (self.thread, number) in self.row[leg][1]

    def lets(self, leg, place, mode):
        return self.item(leg) in (None, ("at", place), ("in", (place, mode)))

    def wants(self, leg, number):
        return self.item(leg) == ("behind", number)

    def ends_of(self, withins, procedure, phase, mode):
        """What follows the place in the withins that begin so and stand at the end."""
        begin = (procedure, phase, mode, self.flow.end_of(procedure))
        return [within[4:] for within in withins if within[:4] == begin]

    def moves(self, place, mode, leg):
        """The moves but calls from the place: number, place, mode, piece and, of a take, the lock."""
        for number in self.flow.moves_from(place):
            _, kind, what, far = self.flow.moves()[number]
            if self.banned(leg, number) or kind == "call":
                continue
            if kind == "is" and mode != what or kind == "not" and mode == what:
                continue
            piece = (("start", None, ()), (kind, what, ())) if kind in ("take", "give") else NOTHING
            yield number, far, what if kind == "set" else mode, piece, what if kind == "take" else None

    def calls(self, place, leg):
        for number in self.flow.moves_from(place):
            _, kind, what, far = self.flow.moves()[number]
            if kind == "call" and not self.banned(leg, number):
                yield number, what, far

    def withins(self, withins):
        """All withins that are asked for."""
        for procedure in range(len(self.program.bodies())):
            for phase in range(self.legs):
                for mode in range(self.program.modes):
                    yield procedure, phase, mode, self.flow.begin_of(procedure), phase, mode, NOTHING
        for p, k, m, a, l, n, stem in withins:
            held = blocks_at(self.program, a)
            if l + 1 < self.legs and self.lets(l, a, n):
                yield p, k, m, a, l + 1, n, then(stem, CUT)
            for number, b, later, piece, lock in self.moves(a, n, l):
                if lock is None or lock not in held:
                    yield p, k, m, b, l, later, then(stem, piece)
                    if self.wants(l, number) and l + 1 < self.legs:
                        yield p, k, m, b, l + 1, later, then(stem, piece, CUT)
            for number, q, b in self.calls(a, l):
                for at, ahead in ((l, stem), (l + 1, then(stem, CUT))):
                    if at == l or self.wants(l, number) and l + 1 < self.legs:
                        for l2, n2, stem2 in self.ends_of(withins, q, at, n):
                            if not locks(stem2) & set(held) and not self.banned(l2, self.back):
                                yield p, k, m, b, l2, n2, then(ahead, stem2)
                                if self.wants(l2, self.back) and l2 + 1 < self.legs:
                                    yield p, k, m, b, l2 + 1, n2, then(ahead, stem2, CUT)

    def standings(self, withins, standings):
        """All standings that are asked for."""
        yield 0, self.flow.begin_of(self.program.threads()[self.thread]), 0, NOTHING
        for phase, place, mode, word in standings:
            if phase == self.legs:
                continue
            if self.lets(phase, place, mode):
                yield phase + 1, place, mode, then(word, CUT)
            for number, far, later, piece, lock in self.moves(place, mode, phase):
                if lock is None or lock not in held_by(word):
                    yield phase, far, later, then(word, piece)
                    if self.wants(phase, number):
                        yield phase + 1, far, later, then(word, piece, CUT)
            for number, q, far in self.calls(place, phase):
                yield phase, self.flow.begin_of(q), mode, word
                if self.wants(phase, number):
                    yield phase + 1, self.flow.begin_of(q), mode, then(word, CUT)
                for at, ahead in ((phase, word), (phase + 1, then(word, CUT))):
                    if at == phase or self.wants(phase, number) and at < self.legs:
                        for late, later, stem in self.ends_of(withins, q, at, mode):
                            if not locks(stem) & set(held_by(word)) and not self.banned(late, self.back):
                                yield late, far, later, then(ahead, stem)
                                if self.wants(late, self.back):
                                    yield late + 1, far, later, then(ahead, stem, CUT)

    def lacking(self, withins, standings):
        """The least within that lacks, or the least standing if none does, None if none lacks."""
        for asked, there in ((self.withins(withins), withins), (self.standings(withins, standings), standings)):
            lacking = {one for one in asked if one[-1] is not None} - set(there)
            if lacking:
                return min(lacking)
        return None


def first_lack(program, row, table):
    for thread, withins, standings in table:
        lacking = Asked(program, thread, row).lacking(withins, standings)
        if lacking is not None:
            return thread, lacking
    return None
