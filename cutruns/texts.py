"""Written things: schedules, lists of legs, goals, rows and words as strings, and how these are read."""

from cutruns.basics import DIGITS, LETTERS, is_below, is_list, is_tuple_of
from cutruns.errors import InvalidSort, InvalidThing, TooMany, UnreadText
from cutruns.machine import MOST_EVENTS, Machine
from cutruns.moments import MOST_LEGS, is_goal, is_row
from cutruns.words import is_word

# Of each sort, how many lists are written around the first tuple, one within the other.
LISTS = {"schedule": 1, "legs": 2, "goal": 1, "row": 1, "word": 0}

MOST_SIGNS = 8000

CLOSING = {"[": "]", "(": ")"}

# No COUNT of a thing has so many digits, so what is longer needs not be read in whole.
MOST_DIGITS = 9


def is_of_sort(program, sort, value):
    """Whether any value is a thing of the sort."""
    return _is_thing(program, _machine_for(program, sort), sort, value)


def _machine_for(program, sort):
    machine = Machine(program)
    if not isinstance(sort, str) or sort not in LISTS:
        raise InvalidSort(sort)
    return machine


def _is_thing(program, machine, sort, value):
    if sort == "schedule":
        return _are_events(machine, value)
    if sort == "legs":
        return _are_legs(machine, value)
    if sort == "goal":
        return is_goal(machine, value)
    if sort == "row":
        return is_row(machine, value)
    return is_word(program, value)


def _are_events(machine, value):
    return is_list(value) and len(value) <= MOST_EVENTS and all([_is_event(machine, one) for one in value])


def _is_event(machine, value):
    return is_tuple_of(value, 2) and is_below(value[0], len(machine.homes)) and is_below(value[1], machine.back + 1)


def _are_legs(machine, value):
    if not is_list(value) or not 1 <= len(value) <= MOST_LEGS:
        return False
    if not all([_are_events(machine, leg) for leg in value]):
        return False
    return sum([len(leg) for leg in value]) <= MOST_EVENTS


def written(program, sort, value):
    """The thing of the sort, written."""
    machine = _machine_for(program, sort)
    if not _is_thing(program, machine, sort, value):
        raise InvalidThing(value)
    text = _written(value, LISTS[sort])
    if len(text) > MOST_SIGNS:
        raise TooMany("signs", MOST_SIGNS)
    return text


def _written(value, lists):
    """The value, written, lists being so many of its layers from the outermost one on."""
    if value is None:
        return "-"
    if not is_list(value):
        return str(value)
    inner = " ".join([_written(one, max(lists - 1, 0)) for one in value])
    return f"[{inner}]" if lists > 0 else f"({inner})"


def read(program, sort, text):
    """The thing of the sort whose written form the text is."""
    machine = _machine_for(program, sort)
    if not isinstance(text, str):
        raise UnreadText(None)
    value = _read_thing(text)
    if len(text) > MOST_SIGNS or not _is_thing(program, machine, sort, value):
        raise UnreadText(None)
    # A tuple in the place of a list would be a thing, too, but isn't written so.
    if _written(value, LISTS[sort]) != text:
        raise UnreadText(None)
    return value


def _read_thing(text):
    """What the text writes, of whatever sort or none: UnreadText where nothing is written so."""
    scan = Scan()
    for position, sign in enumerate(text):
        if not scan.accepts(sign):
            raise UnreadText(position)
    if not scan.may_end():
        raise UnreadText(len(text))
    return scan.whole()


class Scan:
    """What is known of a written thing whose signs are taken one by one."""

    def __init__(self):
        # Of each list or tuple that is not closed, outermost first, the sign that closes it, and what is in it so far.
        self.around = []
        # The signs so far of what is no list and no tuple, if this is what was taken last.
        self.token = ""
        # Whether a value was closed last, and it is kept in the innermost one around or, with none around, as the last.
        self.closed = False
        self.last = None

    def accepts(self, sign):
        """Take the next sign: whether it can stand here."""
        if self.token != "":
            if _goes_on(self.token, sign):
                self.token = self.token + sign
                return True
            self._close_token()
        if self.closed:
            return self._accepts_behind(sign)
        if len(self.around) > 0 and sign == self._closing_here():
            return self._close()
        return self._accepts_first(sign)

    def _accepts_first(self, sign):
        """Take a sign where a value is wanted."""
        if sign in CLOSING:
            self.around.append((CLOSING[sign], []))
            return True
        self.token = sign
        return sign == "-" or sign in DIGITS or sign in LETTERS

    def _closing_here(self):
        """The sign that closes the innermost one around, None where something is wanted in it yet."""
        sign, values = self.around[-1]
        return sign if len(values) == 0 else None

    def _accepts_behind(self, sign):
        """Take a sign behind a value."""
        if len(self.around) == 0:
            return False
        self.closed = False
        return sign == " " or (sign == self.around[-1][0] and self._close())

    def _close(self):
        """Close the innermost one around."""
        sign, values = self.around.pop()
        self._keep(values if sign == "]" else tuple(values))
        return True

    def _close_token(self):
        self._keep(_value_of(self.token))
        self.token = ""

    def _keep(self, value):
        self.closed = True
        if len(self.around) > 0:
            self.around[-1][1].append(value)
        else:
            self.last = value

    def may_end(self):
        """Whether what was taken is a written thing."""
        return len(self.around) == 0 and (self.closed or self.token != "")

    def whole(self):
        """The thing that was taken."""
        if self.token != "":
            self._close_token()
        return self.last


def _goes_on(token, sign):
    """Whether the sign may stand behind the token as a part of it."""
    if token[0] in LETTERS:
        return sign in LETTERS
    return token[0] in DIGITS and token != "0" and sign in DIGITS


def _value_of(token):
    if token == "-":
        return None
    return int(token[:MOST_DIGITS]) if token[0] in DIGITS else token
