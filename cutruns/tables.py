"""Tables of withins and standings, and the least closed ones."""

from cutruns.basics import is_below, is_count, is_list, is_tuple_of
from cutruns.errors import InvalidTable, TooMany
from cutruns.machine import Machine
from cutruns.moments import check_row, threads_in
from cutruns.pieces import LAST, cuts_in, is_any_word, is_piece
from cutruns.searches import Search
from cutruns.words import is_of_locks

MOST_STANDINGS = 20000


def least_table(program, row):
    """The least closed table for the row."""
    check_row(Machine(program), row)
    return [(thread, *_least_lists(Search(program, thread, row))) for thread in threads_in(row)]


def _least_lists(search):
    """The sorted lists of the withins and of the standings of the search."""
    search.begin_standings()
    while search.settle() is not None:
        if search.many_standings() > MOST_STANDINGS:
            raise TooMany("standings", MOST_STANDINGS)
    store = search.rules.store
    withins = [within_of(store, stand) for stand in search.least if stand[0] != ()]
    standings = [standing_of(store, stand) for stand in search.least if stand[0] == ()]
    return sorted(withins), sorted(standings)


def within_of(store, stand):
    """The within that the stand tells."""
    base, late, place, later, stem = stand
    return *base, place, late, later, store.pieces[stem]


def standing_of(store, stand):
    """The standing that the stand tells."""
    _, phase, place, mode, stem = stand
    return phase, place, mode, store.pieces[stem]


def stand_of_within(store, within):
    """The stand that tells the within."""
    procedure, phase, mode, place, late, later, stem = within
    return (procedure, phase, mode), late, place, later, store.number_of(stem)


def stand_of_standing(store, standing):
    """The stand that tells the standing."""
    phase, place, mode, word = standing
    return (), phase, place, mode, store.number_of(word)


def is_table(program, row, value):
    """Whether any value is a table for the row."""
    machine = Machine(program)
    check_row(machine, row)
    threads = threads_in(row)
    if not is_list(value) or len(value) != len(threads):
        return False
    return all([_are_lists_of(program, machine, row, thread, one) for thread, one in zip(threads, value)])


def _are_lists_of(program, machine, row, thread, value):
    """Whether the value is a tuple of the thread, withins and standings."""
    if not is_tuple_of(value, 3) or not is_count(value[0]) or value[0] != thread:
        return False
    if not is_list(value[1]) or not is_list(value[2]):
        return False
    if not all([_is_within(program, machine, len(row), one) for one in value[1]]):
        return False
    return all([_is_standing(program, machine, len(row), one) for one in value[2]])


def _is_within(program, machine, legs, value):
    if not is_tuple_of(value, 7):
        return False
    procedure, phase, mode, place, late, later, stem = value
    if not is_below(late, legs) or not is_below(phase, late + 1):
        return False
    if not is_below(mode, machine.many_modes) or not is_below(later, machine.many_modes):
        return False
    if not is_count(procedure) or not is_below(place, machine.flow.places):
        return False
    if machine.flow.procedure_of(place) != procedure:
        return False
    return is_piece(stem) and is_of_locks(program, stem) and cuts_in(stem) == late - phase


def _is_standing(program, machine, legs, value):
    if not is_tuple_of(value, 4):
        return False
    phase, place, mode, word = value
    if not is_below(phase, legs + 1) or not is_below(place, machine.flow.places):
        return False
    if not is_below(mode, machine.many_modes) or not isinstance(word, tuple):
        return False
    whole = word if phase == legs else (*word, LAST)
    return is_any_word(whole) and is_of_locks(program, whole) and cuts_in(word) == phase


def check_table(program, row, table):
    """Raise InvalidTable unless it is a table for the row."""
    if not is_table(program, row, table):
        raise InvalidTable(table)
