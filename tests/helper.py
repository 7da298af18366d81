"""What several tests of the program use."""

import unittest

# Values of many kinds, none of which is a COUNT, a body, a path that is let, or an object of the package.
STRANGE = (
    None, True, False, -1, "", "0", "skips", b"0", [], {}, {0: 0}, [None], (None,), (((),),), object, 10 ** 29, -(10 ** 29),
)


class Case(unittest.TestCase):
    """A test that also looks at what an error tells."""

    def fails(self, error, told, action, *given, **named):
        """The call raises just this error, with these values as its attributes."""
        with self.assertRaises(error) as caught:
            action(*given, **named)
        self.assertIs(caught.exception.__class__, error)
        self.assertEqual(set(vars(caught.exception)), set(told))
        for name, value in told.items():
            self.same(getattr(caught.exception, name), value)

    def same(self, one, other):
        """Both are equal and of the same kinds all through."""
        self.assertEqual(repr(one), repr(other))
        self.assertEqual(one, other)
        self.assertIs(one.__class__, other.__class__)

    def is_true(self, value):
        self.assertIs(value, True)

    def is_false(self, value):
        self.assertIs(value, False)


# Values that are odd wherever a COUNT, a string, a tuple or a list is wanted.
ODD = (None, True, False, -1, "", "0", b"0", {}, {0: 0}, [None], (None,), object, 10 ** 29)


def bent(value):
    """The values that come of a right one by an odd one in the place of one part, or by a list where a tuple stands."""
    yield from [odd for odd in ODD if repr(odd) != repr(value)]
    if isinstance(value, (list, tuple)):
        for at, part in enumerate(value):
            for other in bent(part):
                changed = [*value[:at], other, *value[at + 1:]]
                yield changed if isinstance(value, list) else tuple(changed)
    if isinstance(value, tuple):
        yield list(value)
