"""Pieces: what a run does with locks, told part by part."""

from cutruns.basics import is_below, is_tuple_of

MOST_LOCKS = 4
MOST_CUTS = 3

# The piece of what touches no lock, and that of a cut.
NOTHING = (("start", None, ()),)
CUT = (("start", None, ()), ("cut", None, ()))

# The part with which each word ends.
LAST = ("cut", None, ())


def piece_of_move(kind, what):
    """The piece of a move of this kind."""
    if kind in ("take", "give"):
        return (("start", None, ()), (kind, what, ()))
    return NOTHING


def mask_of(locks):
    """The number whose bits are the locks."""
    return sum([1 << lock for lock in sorted(set(locks))])


def _is_part(value):
    if not is_tuple_of(value, 3) or not isinstance(value[0], str):
        return False
    if not _is_lock_of(value[0], value[1]) or not isinstance(value[2], tuple):
        return False
    if not all([is_below(lock, MOST_LOCKS) for lock in value[2]]):
        return False
    return list(value[2]) == sorted(set(value[2]))


def _is_lock_of(edge, value):
    if edge in ("start", "cut"):
        return value is None
    return edge in ("take", "give") and is_below(value, MOST_LOCKS)


class Reading:
    """What is known of a piece whose parts behind the start are read one by one."""

    def __init__(self):
        self.held = []
        self.cuts = 0
        # Whether a take was read in this leg, and whether a lock was given that the piece hadn't taken.
        self.took = False
        self.lent = False

    def reads(self, part):
        """Read the next part: whether it can stand here."""
        edge, lock, used = part
        if edge == "take":
            may = self._takes(lock)
        elif edge == "give":
            may = self._gives(lock)
        else:
            may = edge == "cut" and self.cuts < MOST_CUTS
            self.cuts += 1
            self.took = False
        return may and not any([one in self.held for one in used])

    def _takes(self, lock):
        if lock in self.held:
            return False
        self.held.append(lock)
        self.took = True
        return True

    def _gives(self, lock):
        if self.took:
            return False
        if len(self.held) == 0:
            self.lent = True
            return True
        return self.held.pop() == lock


def _reading_of(value):
    """What a piece reads as; None for any value that is no piece."""
    if not isinstance(value, tuple) or len(value) == 0 or not all([_is_part(part) for part in value]):
        return None
    reading = Reading()
    if value[0][0] != "start" or not all([reading.reads(part) for part in value[1:]]):
        return None
    return reading


def is_piece(value):
    """Whether any value is a piece."""
    return _reading_of(value) is not None


def is_any_word(value):
    """Whether any value is a word, of whatever program."""
    reading = _reading_of(value)
    return reading is not None and not reading.lent and value[-1] == LAST


def cuts_in(piece):
    """How many cuts the piece has."""
    return sum([1 for edge, _, _ in piece if edge == "cut"])


def locks_of(piece):
    """The rising list of the locks of the piece, of its edges and used ones."""
    locks = [lock for _, lock, _ in piece if lock is not None]
    for _, _, used in piece:
        locks.extend(used)
    return sorted(set(locks))


def held_by(piece):
    """The list of the locks that the piece has taken itself and not given, outermost first."""
    held = []
    for edge, lock, _ in piece:
        if edge == "take":
            held.append(lock)
        elif edge == "give" and len(held) > 0:
            held.pop()
    return held


def parts_in_legs(word):
    """The list of the legs of the word, each the list of its parts with their positions."""
    legs = [[]]
    for at, part in enumerate(word[:-1]):
        if part[0] == "cut":
            legs.append([])
        legs[-1].append((at, part))
    return legs


def put_behind(piece, other):
    """The piece with the other one put behind it, None if there is none."""
    parts = list(piece)
    held = held_by(piece)
    if not _use(parts, held, other[0][2]):
        return None
    for edge, lock, used in other[1:]:
        if edge == "give" and len(held) > 0 and held.pop() != lock:
            return None
        if edge == "take":
            if lock in held:
                return None
            held.append(lock)
        # Ahead of a give in a later leg stands a cut or another give, so this is one of the first leg.
        if edge == "give" and parts[-1][:2] == ("take", lock):
            used = (lock, *parts.pop()[2], *used)
        else:
            parts.append((edge, lock, ()))
        if not _use(parts, held, used):
            return None
    return tuple(parts)


def _use(parts, held, used):
    """Join the locks to those that the last part uses: whether none of them is held."""
    edge, lock, already = parts[-1]
    parts[-1] = (edge, lock, tuple(sorted(set(already + used))))
    return not any([one in held for one in used])
