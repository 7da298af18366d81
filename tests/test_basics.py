"""INTEGERS and COUNTS [2]."""

from cutruns.basics import is_count, is_integer
from tests.helper import Case

NO_INTEGERS = (None, True, False, "", "1", b"1", [], [1], (), (1,), {}, {1: 1}, object(), int, is_count)


class BasicsTest(Case):
    def test_integers(self):
        for value in (0, 1, -1, 7, 10 ** 29, -(10 ** 29)):
            self.is_true(is_integer(value))

    def test_no_integers(self):
        for value in NO_INTEGERS:
            self.is_false(is_integer(value))

    def test_counts(self):
        for value in (0, 1, 7, 10 ** 29):
            self.is_true(is_count(value))

    def test_no_counts(self):
        for value in (*NO_INTEGERS, -1, -(10 ** 29)):
            self.is_false(is_count(value))

    def test_by_name(self):
        self.is_true(is_integer(value=-3))
        self.is_false(is_count(value=-3))
