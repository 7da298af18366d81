"""Words: which locks a cut run uses, takes for good and gives late, leg by leg."""

from cutruns.basics import is_below
from cutruns.errors import InvalidLeg, InvalidPiece, InvalidRun, InvalidWord
from cutruns.pieces import cuts_in, held_by, is_any_word, is_piece, locks_of, parts_in_legs, put_behind
from cutruns.programs import check_program, check_thread
from cutruns.walks import are_runs, walked


def walk_behind(program, thread, runs):
    """The walk of the thread behind the cut run."""
    check_program(program)
    check_thread(program, thread)
    if not are_runs(runs):
        raise InvalidRun(None)
    walk, wrong = walked(program, thread, runs)
    if wrong is not None:
        raise InvalidRun(wrong)
    return walk


def word_of(program, thread, runs):
    """The word of the cut run of the thread."""
    return walk_behind(program, thread, runs).piece


def state_of(program, thread, runs):
    """The tuple (mode, stack, held locks) behind the cut run of the thread."""
    walk = walk_behind(program, thread, runs)
    mode, stack = walk.mode_and_stack()
    return mode, stack, tuple(walk.locks_held())


def is_word(program, value):
    """Whether any value is a word of the program."""
    check_program(program)
    return is_any_word(value) and is_of_locks(program, value)


def is_of_locks(program, piece):
    """Whether the locks of the piece are the program's."""
    return all([lock < program.locks for lock in locks_of(piece)])


def check_word(word):
    """Raise InvalidWord unless it is a word, of whatever program."""
    if not is_any_word(word):
        raise InvalidWord(word)


def legs_of(word):
    """The list of the legs of the word, tuples of parts."""
    check_word(word)
    return [tuple([part for _, part in leg]) for leg in parts_in_legs(word)]


def held_at(word, leg):
    """The tuple of the locks held at the end of the leg, the outermost first."""
    check_word(word)
    if not is_below(leg, cuts_in(word)):
        raise InvalidLeg(leg)
    last, _ = parts_in_legs(word)[leg][-1]
    return tuple(held_by(word[:last + 1]))


def then_word(word, other):
    """The piece other put behind the piece word, None if there is none."""
    for piece in (word, other):
        if not is_piece(piece):
            raise InvalidPiece(piece)
    return put_behind(word, other)
