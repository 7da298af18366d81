"""Whether words agree, and what shows it: orders and bars."""

from cutruns.basics import is_below, is_count, is_list, is_tuple_of
from cutruns.errors import InvalidLeg, InvalidWords
from cutruns.pieces import MOST_LOCKS, cuts_in, is_any_word
from cutruns.readings import Tangle, do_agree, first_shared, read_legs, turned

MOST_WORDS = 4


def are_words(value):
    """Whether any value is words: a list of one to four words with as many legs each."""
    if not is_list(value) or not 1 <= len(value) <= MOST_WORDS:
        return False
    if not all([is_any_word(word) for word in value]):
        return False
    return all([cuts_in(word) == cuts_in(value[0]) for word in value])


def _read(words):
    """Of each word the list of its legs."""
    if not are_words(words):
        raise InvalidWords(words)
    return [read_legs(word) for word in words]


def _tangles(words):
    """The list of the tangles of the words, leg by leg."""
    return [Tangle(legs) for legs in turned(_read(words))]


def _tangle(words, leg):
    tangles = _tangles(words)
    if not is_below(leg, len(tangles)):
        raise InvalidLeg(leg)
    return tangles[leg]


def nodes_of(words, leg):
    """The sorted list of the nodes of the leg."""
    return list(_tangle(words, leg).node_names)


def arrows_of(words, leg):
    """The sorted list of the arrows of the leg."""
    return _tangle(words, leg).arrows()


def agree(words):
    """Whether the words agree."""
    return do_agree(_read(words))


def order_of(words):
    """An order of the words, None if there is none."""
    return [tangle.order() for tangle in _tangles(words)] if agree(words) else None


def bar_of(words):
    """A bar of the words, None if there is none."""
    for leg, tangle in enumerate(_tangles(words)):
        shared = first_shared(tangle.legs)
        if shared is not None:
            mask, first, second = shared
            return "shared", leg, mask.bit_length() - 1, first, second
        if not tangle.is_ringless():
            return "ring", leg, tangle.ring()
    return None


def is_order(words, value):
    """Whether any value is an order of the words."""
    tangles = _tangles(words)
    if not is_list(value) or len(value) != len(tangles):
        return False
    if not all([_is_order_of(tangle, told) for tangle, told in zip(tangles, value)]):
        return False
    return all([first_shared(tangle.legs) is None for tangle in tangles])


def _is_order_of(tangle, value):
    if not is_list(value) or not all([_is_node(tangle, one) for one in value]):
        return False
    if sorted(value) != tangle.node_names:
        return False
    at = {name: position for position, name in enumerate(value)}
    return all([at[near] < at[far] for near, far in tangle.arrows()])


def _is_node(tangle, value):
    """Whether any value is a node of the tangle: True and False are no COUNTS in it either."""
    return is_tuple_of(value, 3) and all([is_count(part) for part in value]) and value in tangle.node_names


def is_bar(words, value):
    """Whether any value is a bar of the words."""
    tangles = _tangles(words)
    if not isinstance(value, tuple) or len(value) < 3 or not is_below(value[1], len(tangles)):
        return False
    if not isinstance(value[0], str):
        return False
    if value[0] == "ring":
        return len(value) == 3 and _is_ring(tangles[value[1]], value[2])
    return value[0] == "shared" and len(value) == 5 and _is_shared(tangles[value[1]], value[2], value[3], value[4])


def _is_ring(tangle, value):
    if not is_list(value) or len(value) < 2 or not all([_is_node(tangle, one) for one in value]):
        return False
    arrows = tangle.arrows()
    steps = list(zip(value, [*value[1:], value[0]]))
    return len(set(value)) == len(value) and all([step in arrows for step in steps])


def _is_shared(tangle, lock, first, second):
    if not is_below(lock, MOST_LOCKS) or not is_below(first, len(tangle.legs)):
        return False
    if not is_below(second, len(tangle.legs)) or first == second:
        return False
    return tangle.legs[first].shares(tangle.legs[second]) >> lock & 1 == 1
