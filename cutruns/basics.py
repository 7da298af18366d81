"""What is asked of values of any kind."""

LETTERS = "abcdefghijklmnopqrstuvwxyz"
DIGITS = "0123456789"


def is_integer(value):
    """Whether the value is an int that is not a bool."""
    return isinstance(value, int) and not isinstance(value, bool)


def is_count(value):
    """Whether the value is an INTEGER that is at least 0."""
    return is_integer(value) and value >= 0


def is_below(value, limit):
    """Whether the value is a COUNT below the limit."""
    return is_count(value) and value < limit


def is_list(value):
    """Whether the value may stand where the document says list."""
    return isinstance(value, (list, tuple))


def is_tuple_of(value, many):
    """Whether the value is a tuple of so many items."""
    return isinstance(value, tuple) and len(value) == many
