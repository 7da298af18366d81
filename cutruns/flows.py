"""Where the threads of a program can stand, and how they go on."""

from cutruns.basics import is_below
from cutruns.errors import InvalidPlace, InvalidProcedure, NoSuchPath, TooMany
from cutruns.programs import check_program
from cutruns.statements import bodies_within, check_path

MOST_PLACES = 160


class Layout:
    """Places and moves while they are made.

    A SPOT is a tuple: the procedure, the path of what stands around, and the holds around, outermost first, each a
    tuple of its lock and of the path of what stands in it.
    """

    def __init__(self):
        self.spots = []
        self.made = []
        # Of each procedure and path the place where the statement there begins.
        self.starts = {}
        # Of each procedure and path of what stands in a hold the number of its give.
        self.gives = {}

    def place(self, spot):
        """Make the next place."""
        self.spots.append(spot)
        return len(self.spots) - 1

    def move(self, near, kind, what, far):
        """Make the next move."""
        self.made.append((near, kind, what, far))

    def lay_procedure(self, procedure, body):
        """Lay the procedure, and tell its begin."""
        spot = (procedure, (), ())
        begin = self.place(spot)
        end = self.place(spot)
        self.lay_body(spot, body, begin, end)
        return begin

    def lay_body(self, spot, body, near, far):
        """Lay the body from the near place to the far one."""
        procedure, path, held = spot
        if len(body) == 0:
            self.move(near, "step", None, far)
        for at, statement in enumerate(body):
            behind = far if at == len(body) - 1 else self.place(spot)
            self.lay_statement((procedure, (*path, at), held), statement, near, behind)
            near = behind

    def lay_statement(self, spot, statement, near, far):
        """Lay the statement, whose path and the holds around it the spot tells."""
        procedure, path, held = spot
        self.starts[procedure, path] = near
        word = statement[0]
        if word == "skip":
            self.move(near, "step", None, far)
        elif word == "hold":
            inner = (*path, 0)
            self.lay_hold((procedure, inner, (*held, (statement[1], inner))), statement, near, far)
        elif word == "loop":
            self.lay_loop((procedure, (*path, 0), held), statement, near, far)
        elif word == "either":
            self.lay_choice(spot, statement, (("step", None), ("step", None)), near, far)
        elif word == "when":
            self.lay_choice(spot, statement, (("is", statement[1]), ("not", statement[1])), near, far)
        else:
            self.move(near, word, statement[1], far)

    def lay_hold(self, inner, statement, near, far):
        """Lay a hold, whose inside the spot tells."""
        lock, body = statement[1], statement[2]
        taken = self.place(inner)
        self.move(near, "take", lock, taken)
        done = self.place(inner)
        self.lay_body(inner, body, taken, done)
        procedure, path, _ = inner
        self.gives[procedure, path] = len(self.made)
        self.move(done, "give", lock, far)

    def lay_loop(self, inner, statement, near, far):
        """Lay a loop, whose inside the spot tells."""
        around = self.place(inner)
        self.move(near, "step", None, around)
        self.lay_body(inner, statement[1], around, around)
        self.move(around, "step", None, far)

    def lay_choice(self, spot, statement, ways, near, far):
        """Lay both bodies of a statement, each behind a move of its own way in."""
        procedure, path, held = spot
        for which, body in enumerate(bodies_within(statement)):
            kind, what = ways[which]
            inner = (procedure, (*path, which), held)
            chosen = self.place(inner)
            self.move(near, kind, what, chosen)
            self.lay_body(inner, body, chosen, far)


class Flow:
    """The flow of a program, which never changes."""

    def __init__(self, program):
        check_program(program)
        layout = Layout()
        self._begins = [layout.lay_procedure(at, body) for at, body in enumerate(program.bodies())]
        self._spots = layout.spots
        self._moves = layout.made
        self._starts = layout.starts
        self._giving = layout.gives
        if len(self._spots) > MOST_PLACES:
            raise TooMany("places", MOST_PLACES)
        self._leaving = [[] for _ in self._spots]
        for number, move in enumerate(self._moves):
            self._leaving[move[0]].append(number)

    @property
    def places(self):
        """How many places there are."""
        return len(self._spots)

    @property
    def many_moves(self):
        """How many moves there are, which is BACK's number."""
        return len(self._moves)

    def moves(self):
        """The list of the moves."""
        return list(self._moves)

    def moves_from(self, place):
        """The rising list of the numbers of the moves from the place."""
        self._check_place(place)
        return list(self._leaving[place])

    def begin_of(self, procedure):
        """The place where the procedure begins."""
        self._check_procedure(procedure)
        return self._begins[procedure]

    def end_of(self, procedure):
        """The place where the procedure ends."""
        self._check_procedure(procedure)
        return self._begins[procedure] + 1

    def procedure_of(self, place):
        """The procedure of which it is a place."""
        self._check_place(place)
        return self._spots[place][0]

    def place_ahead(self, procedure, path):
        """The place where the statement at the path of the procedure's body begins."""
        self._check_procedure(procedure)
        check_path(path)
        start = self._starts.get((procedure, tuple(path)))
        if start is None:
            raise NoSuchPath(path)
        return start

    def locks_around(self, place):
        """The list of the locks of the holds within which the place lies, outermost first."""
        self._check_place(place)
        return [lock for lock, _ in self._spots[place][2]]

    def give_around(self, place):
        """The number of the give of the innermost hold within which the place lies, None if there is none."""
        self._check_place(place)
        procedure, _, held = self._spots[place]
        return self._giving[procedure, held[-1][1]] if len(held) > 0 else None

    def _check_place(self, place):
        if not is_below(place, len(self._spots)):
            raise InvalidPlace(place)

    def _check_procedure(self, procedure):
        if not is_below(procedure, len(self._begins)):
            raise InvalidProcedure(procedure)
