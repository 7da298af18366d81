"""Goals and rows of a program, and what a row wants of each thread."""

from cutruns.basics import is_below, is_list, is_tuple_of
from cutruns.errors import InvalidGoal, InvalidRow

MOST_LEGS = 3
MOST_ITEMS = 4
MOST_BANS = 12


def check_goal(machine, goal):
    """Raise InvalidGoal unless it is a goal of the machine's program."""
    if not is_goal(machine, goal):
        raise InvalidGoal(goal)


def is_goal(machine, value):
    """Whether any value is a goal of the machine's program."""
    if not is_list(value) or not 1 <= len(value) <= MOST_ITEMS:
        return False
    if not all([is_tuple_of(one, 2) and _is_place(machine, one[1]) for one in value]):
        return False
    return _are_unlike_threads(machine, value)


def _is_place(machine, value):
    return is_below(value, machine.flow.places)


def _is_number(machine, value):
    """Whether the value is the number of a move, or of BACK."""
    return is_below(value, machine.back + 1)


def _is_thread(machine, value):
    return is_below(value, len(machine.homes))


def _are_unlike_threads(machine, tuples):
    """Whether the first ones of the tuples are unlike threads."""
    if not all([_is_thread(machine, one[0]) for one in tuples]):
        return False
    return len({one[0] for one in tuples}) == len(tuples)


def check_row(machine, row):
    """Raise InvalidRow unless it is a row of the machine's program."""
    if not is_row(machine, row):
        raise InvalidRow(row)


def is_row(machine, value):
    """Whether any value is a row of the machine's program."""
    return is_list(value) and 1 <= len(value) <= MOST_LEGS and all([_is_leg(machine, leg) for leg in value])


def _is_leg(machine, value):
    return is_tuple_of(value, 2) and _are_items(machine, value[0]) and _are_bans(machine, value[1])


def _are_items(machine, value):
    if not isinstance(value, tuple) or len(value) > MOST_ITEMS:
        return False
    return all([_is_item(machine, one) for one in value]) and _are_unlike_threads(machine, value)


def _is_item(machine, value):
    if not is_tuple_of(value, 3) or not isinstance(value[1], str):
        return False
    _, word, what = value
    if word == "at":
        return _is_place(machine, what)
    if word == "in":
        return is_tuple_of(what, 2) and _is_place(machine, what[0]) and is_below(what[1], machine.many_modes)
    return word == "behind" and _is_number(machine, what)


def _are_bans(machine, value):
    if not isinstance(value, tuple) or len(value) > MOST_BANS:
        return False
    return all([is_tuple_of(one, 2) and _is_thread(machine, one[0]) and _is_number(machine, one[1]) for one in value])


def threads_in(row):
    """The rising list of the threads that stand in the items of the row."""
    return sorted({item[0] for items, _ in row for item in items})


class Wishes:
    """What a row wants of one thread, leg by leg, which never changes."""

    def __init__(self, row, thread):
        # Of each leg the thread's item without the thread, or None, and the numbers that are banned.
        self.wanted = [_item_of(items, thread) for items, _ in row]
        self.banned = [{number: True for banned, number in bans if banned == thread} for _, bans in row]

    def is_banned(self, leg, number):
        """Whether the leg bans the number for the thread."""
        return number in self.banned[leg]

    def lets_cut(self, leg, place, mode):
        """Whether the leg can end with the thread standing there, whatever it did last."""
        wanted = self.wanted[leg]
        if wanted is None:
            return True
        word, what = wanted
        if word == "at":
            return place == what
        return word == "in" and (place, mode) == what

    def wants_behind(self, leg, number):
        """Whether the leg is to end right behind this number of the thread."""
        return self.wanted[leg] == ("behind", number)


def _item_of(items, thread):
    for one, word, what in items:
        if one == thread:
            return (word, what)
    return None
