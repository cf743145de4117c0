"""What several tests share."""

import itertools
import unittest

from arrowsizes.chart.plans import Plan
from arrowsizes.errors import InvalidCount
from arrowsizes.fill.fillings import Filling
from arrowsizes.grid.tables import Table
from arrowsizes.poly.polys import Poly, Quotient
from arrowsizes.poly.series import Series

SIXTY = 10 ** 60 - 1
SIXTY_ONE = 10 ** 60

# Values of every other kind that the document names as possible wrong arguments.
OTHERS = (
    True, False, None, "", "1", "Ab", "a" * 4000, (), (1,), (True,), ((),), [], [1], {}, {1: 1}, {(0,): 1},
    Poly((1,)), Quotient(1), Series((1,), {}), Table(2, 1, 1, ((1,),)), Plan(1, ()),
    Filling(Plan(1, ()), 2, (1,), ()),
)

NO_TUPLES = tuple([value for value in OTHERS if not isinstance(value, tuple)]) + (0, 1, SIXTY_ONE)

# The first ones, with integers that are too long.
NO_INTEGERS = OTHERS + (SIXTY_ONE, -SIXTY_ONE, 10 ** 99)


class Case(unittest.TestCase):
    """A test case that knows how to look at errors."""

    def refuses(self, error, call, *values, **kept):
        """The call raises just this error, which keeps just these values."""
        with self.assertRaises(error) as caught:
            call(*values)
        self.assertIs(type(caught.exception), error)
        for name, value in kept.items():
            self.same(getattr(caught.exception, name), value)

    def same(self, one, other):
        """Equal values of one kind: True is not 1."""
        self.assertEqual(one, other)
        self.assertIs(type(one), type(other))

    def all_refused(self, error, call, values):
        """The call with each of the values raises the error, and keeps the value if it is one of a count."""
        for value in values:
            with self.subTest(value=repr(value)[:40]):
                with self.assertRaises(error) as caught:
                    call(value)
                self.assertIs(type(caught.exception), error)
                if hasattr(caught.exception, "value"):
                    self.assertIs(caught.exception.value, value)

    def not_counts(self, call, low, high):
        """The call takes one integer, from one bound to the other: both bounds go, one beyond does not."""
        call(low)
        call(high)
        self.all_refused(InvalidCount, call, NO_INTEGERS + (low - 1, high + 1))

    def never_iterated(self, value):
        """Objects can be iterated over only where the document says so."""
        with self.assertRaises(TypeError):
            iter(value)


def all_rows(*bounds):
    """All tuples of integers from 0 to the bounds."""
    return list(itertools.product(*[range(bound + 1) for bound in bounds]))
