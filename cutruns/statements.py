"""Statements, the bodies that they make, and the paths to them."""

from cutruns.basics import is_below, is_count, is_list, is_tuple_of
from cutruns.errors import InvalidBody, InvalidPart, InvalidPath, InvalidShape, NoSuchPath

# The bounds of a shape: locks, cells, modes, procedures.
LEAST = (0, 0, 1, 1)
MOST = (4, 4, 4, 6)

LABELS = 10
DEEPEST = 6

# Of each statement's word, how many COUNTS follow it, and how many bodies behind them.
FORMS = {
    "skip": (0, 0),
    "touch": (1, 0),
    "write": (1, 0),
    "mark": (1, 0),
    "set": (1, 0),
    "claim": (1, 0),
    "call": (1, 0),
    "hold": (1, 1),
    "either": (0, 2),
    "when": (1, 2),
    "loop": (0, 1),
}

# Of each word whose COUNT the shape bounds, which part of the shape does.
BOUNDED_BY = {"hold": 0, "touch": 1, "write": 1, "set": 2, "claim": 2, "when": 2, "call": 3}


def is_within(value, at):
    """Whether the value may be the part of a shape at this position."""
    return is_count(value) and LEAST[at] <= value <= MOST[at]


def is_shape(value):
    """Whether the value is a shape."""
    return is_tuple_of(value, 4) and all([is_within(part, at) for at, part in enumerate(value)])


def is_body(shape, value):
    """Whether the value is a body of the shape."""
    check_shape(shape)
    return _is_body_at(shape, value, 1)


def _is_body_at(shape, value, depth):
    return isinstance(value, tuple) and all([_is_statement(shape, one, depth) for one in value])


def _is_statement(shape, value, depth):
    if depth > DEEPEST or not _has_form(value):
        return False
    counts, _ = FORMS[value[0]]
    if counts > 0 and not is_below(value[1], count_limit(shape, value[0])):
        return False
    return all([_is_body_at(shape, body, depth + 1) for body in bodies_within(value)])


def _has_form(value):
    if not isinstance(value, tuple) or len(value) == 0:
        return False
    if not isinstance(value[0], str) or value[0] not in FORMS:
        return False
    return len(value) == 1 + sum(FORMS[value[0]])


def count_limit(shape, word):
    """What the COUNT behind the word of a statement is below."""
    if word == "mark":
        return LABELS
    return shape[BOUNDED_BY[word]]


def bodies_within(statement):
    """The tuple of the bodies that stand in the statement itself."""
    counts, _ = FORMS[statement[0]]
    return statement[1 + counts:]


def is_path(value):
    """Whether the value is a list of an odd number of COUNTS."""
    return is_list(value) and len(value) % 2 == 1 and all([is_count(step) for step in value])


def check_shape(shape):
    """Raise InvalidShape unless it is a shape."""
    if not is_shape(shape):
        raise InvalidShape(shape)


def check_body(shape, body):
    """Raise the error of the first one that is not a shape, and a body of it."""
    if not is_body(shape, body):
        raise InvalidBody(body)


def check_path(path):
    """Raise InvalidPath unless it is a path, whether a statement stands there or not."""
    if not is_path(path):
        raise InvalidPath(path)


def statements_in(body):
    """The list of all statements of the body, those within others right behind these."""
    found = []
    for statement in body:
        found.append(statement)
        for inner in bodies_within(statement):
            found.extend(statements_in(inner))
    return found


def size_of(shape, body):
    """How many statements stand in the body."""
    check_body(shape, body)
    return len(statements_in(body))


def locks_in(shape, body):
    """The rising list of the locks that are held anywhere in the body."""
    check_body(shape, body)
    return _counts_behind("hold", body)


def calls_in(shape, body):
    """The rising list of the procedures that are called anywhere in the body."""
    check_body(shape, body)
    return _counts_behind("call", body)


def _counts_behind(word, body):
    return sorted({statement[1] for statement in statements_in(body) if statement[0] == word})


def paths_of(shape, body):
    """The sorted list of the paths of all statements of the body."""
    check_body(shape, body)
    return _paths_behind([], body)


def _paths_behind(ahead, body):
    found = []
    for at, statement in enumerate(body):
        path = [*ahead, at]
        found.append(path)
        for which, inner in enumerate(bodies_within(statement)):
            found.extend(_paths_behind([*path, which], inner))
    return found


def at_path(shape, body, path):
    """The statement of the body at the path."""
    check_body(shape, body)
    check_path(path)
    statement = found_at(body, path)
    if statement is None:
        raise NoSuchPath(path)
    return statement


def found_at(body, path):
    """The statement at the path, None if there is none."""
    if path[0] >= len(body):
        return None
    statement = body[path[0]]
    if len(path) == 1:
        return statement
    inner = bodies_within(statement)
    if path[1] >= len(inner):
        return None
    return found_at(inner[path[1]], path[2:])


def with_path(shape, body, path, part):
    """The body with the statements of the part in the place of the statement at the path."""
    at_path(shape, body, path)
    if not is_body(shape, part):
        raise InvalidPart(part)
    made = replaced(body, path, part)
    # The part may stand deeper in the body than it does by itself.
    if not is_body(shape, made):
        raise InvalidPart(part)
    return made


def replaced(body, path, part):
    """What comes of the body with the part in the place of the statement at the path, a body of the shape or not."""
    at = path[0]
    if len(path) == 1:
        return (*body[:at], *part, *body[at + 1:])
    statement = body[at]
    counts, _ = FORMS[statement[0]]
    which = 1 + counts + path[1]
    inner = replaced(statement[which], path[2:], part)
    return (*body[:at], (*statement[:which], inner, *statement[which + 1:]), *body[at + 1:])
