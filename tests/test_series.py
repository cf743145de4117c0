"""[2.3], [2.4], [2.5] and what stands there: series."""

import itertools
import random
import unittest

from arrowsizes.errors import InvalidOperation, InvalidSizes
from arrowsizes.poly import series
from arrowsizes.poly.polys import Poly, Quotient, power_of_q, turn_count
from arrowsizes.poly.series import Series
from tests.helpers import Case, NO_INTEGERS, NO_TUPLES, OTHERS, SIXTY, SIXTY_ONE, all_rows

Q = Poly((0, 1))
BOUNDS = ((0,), (4,), (2, 2), (1, 1, 1), (3, 0, 1), (6,))


def some_series(seed, bound, at_zeros):
    """A series that looks random, with a told entry at the row of zeros."""
    source = random.Random(seed)
    entries = {}
    for row in all_rows(*bound):
        kind = source.randint(0, 3)
        top = Poly(tuple([source.randint(-2, 2) for _ in range(3)]))
        entries[row] = (0, source.randint(-3, 3), top, Quotient(top, Poly((source.randint(1, 3), -1))))[kind]
    entries[(0,) * len(bound)] = at_zeros
    return Series(bound, entries)


def moved(one):
    """The series h of [2.3], as it stands there."""
    found = Series(one.bound, {})
    for many in range(1, 7):
        entries = {}
        for row, entry in one.entries.items():
            goal = tuple([many * size for size in row])
            if all([size <= most for size, most in zip(goal, one.bound)]):
                entries[goal] = entry.spread(many).over(many)
        found = found.plus(Series(one.bound, entries))
    return found


def slow_exponential(one):
    """The exponential, as it stands in [2.3]: powers of h, divided by factorials, added up."""
    powers, found, zeros = moved(one), Series(one.bound, {}), (0,) * len(one.bound)
    step = Series(one.bound, {zeros: 1})
    for many in range(1, sum(one.bound) + 2):
        found = found.plus(step)
        step = step.times(powers).times(Series(one.bound, {zeros: Quotient(1, many)}))
    return found


class SeriesTests(Case):

    def test_constant(self):
        self.assertEqual(series.MOST_TERMS, 60)

    def test_bounds(self):
        for bound in ((0,), (6,), (6, 6), (4, 3, 2), (0,) * 6, (1, 1, 1, 1, 1), (5, 4, 1), (0, 0, 0, 0, 0, 6)):
            self.same(Series(bound, {}).bound, bound)
            self.assertEqual(Series(bound, {}).entries, {})
        for bound in ((6, 6, 1), (1,) * 6, (4, 3, 1, 1), (), (7,), (-1,), (0,) * 7, (True,), (1, "1"), (SIXTY_ONE,), [1], (60,)):
            self.refuses(InvalidSizes, Series, bound, {})
        self.all_refused(InvalidSizes, lambda value: Series(value, {}), NO_TUPLES)
        self.refuses(InvalidSizes, Series, (7,), None)

    def test_sixty_rows(self):
        full = Series((4, 3, 2), {row: 1 for row in all_rows(4, 3, 2)})
        self.assertEqual(len(full.entries), 60)
        self.assertEqual(full.times(full).at((4, 3, 2)), Quotient(60))
        self.refuses(InvalidSizes, Series, (60,), {})

    def test_entries(self):
        given = {(1, 0): Quotient(1, 2), (0, 0): 0, (0, 1): Q, (1, 1): Poly(()), (0, 2): -SIXTY}
        one = Series((1, 2), given)
        self.same(one.entries, {(0, 1): Quotient(Q), (0, 2): Quotient(-SIXTY), (1, 0): Quotient(1, 2)})
        self.assertEqual(list(one.entries), [(0, 1), (0, 2), (1, 0)])
        self.assertEqual([type(entry) for entry in one.entries.values()], [Quotient] * 3)
        self.assertEqual(list(given), [(1, 0), (0, 0), (0, 1), (1, 1), (0, 2)])
        long = Poly((SIXTY,)).times(SIXTY)
        self.assertEqual(Series((1,), {(1,): long}).at((1,)), Quotient(long))

    def test_no_shared_state(self):
        given = {(1,): 1}
        one = Series((2,), given)
        given[(2,)] = 5
        told = one.entries
        told[(0,)] = Quotient(7)
        self.assertEqual(one, Series((2,), {(1,): 1}))
        with self.assertRaises(AttributeError):
            one.entries = {}
        with self.assertRaises(AttributeError):
            one.bound = (1,)
        self.never_iterated(one)

    def test_entries_refused(self):
        wrong = ({(3,): 1}, {(-1,): 1}, {(1, 1): 1}, {(): 1}, {1: 1}, {(True,): 1}, {"1": 1}, {None: 1}, {(SIXTY_ONE,): 1}, {((1,),): 1})
        self.all_refused(InvalidOperation, lambda value: Series((2,), value), wrong)
        for value in NO_INTEGERS:
            if not isinstance(value, (Poly, Quotient)):
                self.refuses(InvalidOperation, Series, (2,), {(1,): value})
        no_dicts = tuple([value for value in OTHERS if not isinstance(value, dict)])
        self.all_refused(InvalidOperation, lambda value: Series((2,), value), no_dicts + ({1: 1}, 5, [((1,), 1)]))

    def test_at(self):
        one = Series((1, 2), {(0, 2): 3})
        self.assertEqual(one.at((0, 2)), Quotient(3))
        self.assertEqual(one.at((1, 1)), Quotient(0))
        self.all_refused(InvalidSizes, one.at, NO_INTEGERS + ((2, 0), (0, 3), (0,), (0, 0, 0), (0, True), [0, 2], (0, -1)))

    def test_sums_and_products(self):
        for bound in BOUNDS:
            one, other = some_series(1, bound, 2), some_series(2, bound, Q)
            total, product = one.plus(other), one.times(other)
            for row in all_rows(*bound):
                self.assertEqual(total.at(row), one.at(row).plus(other.at(row)))
                told = Quotient(0)
                for part in all_rows(*row):
                    rest = tuple([size - less for size, less in zip(row, part)])
                    told = told.plus(one.at(part).times(other.at(rest)))
                self.assertEqual(product.at(row), told)

    def test_operands_refused(self):
        one = Series((2,), {(1,): 1})
        for name in ("plus", "times"):
            self.all_refused(InvalidOperation, getattr(one, name), OTHERS + (0, 1, Series((1,), {}), Series((2, 0), {})))

    def test_exponential_as_it_is_told(self):
        for bound in BOUNDS:
            for seed in (3, 4):
                one = some_series(seed, bound, 0)
                self.assertEqual(one.exponential(), slow_exponential(one))

    def test_undone(self):
        for bound in BOUNDS + ((2, 1, 2),):
            one, other = some_series(5, bound, 0), some_series(6, bound, 1)
            self.assertEqual(one.exponential().logarithm(), one)
            self.assertEqual(other.logarithm().exponential(), other)

    def test_sums_to_products_and_back(self):
        for bound in BOUNDS:
            one, other = some_series(7, bound, 0), some_series(8, bound, 0)
            self.assertEqual(one.plus(other).exponential(), one.exponential().times(other.exponential()))
            one, other = some_series(9, bound, 1), some_series(10, bound, 1)
            self.assertEqual(one.times(other).logarithm(), one.logarithm().plus(other.logarithm()))

    def test_told_exponentials(self):
        found = Series((6,), {(1,): Q}).exponential()
        self.assertEqual([found.at((n,)) for n in range(7)], [power_of_q(n) for n in range(7)])
        found = Series((6,), {(1,): Quotient(Q, Q.minus(1))}).exponential()
        told = [Quotient(power_of_q(n * n).top, turn_count(n)) for n in range(7)]
        self.assertEqual([found.at((n,)) for n in range(7)], told)

    def test_one_row_and_sixty_rows(self):
        self.assertEqual(Series((0,), {}).exponential(), Series((0,), {(0,): 1}))
        self.assertEqual(Series((0, 0), {(0, 0): 1}).logarithm(), Series((0, 0), {}))
        one = Series((4, 3, 2), {(1, 0, 0): 1, (0, 1, 0): Q, (0, 0, 1): Quotient(1, Q.minus(1)), (1, 1, 1): -2})
        self.assertEqual(one.exponential().logarithm(), one)

    def test_needed_entries(self):
        for entry in (1, -1, Q, Quotient(1, 2)):
            self.refuses(InvalidOperation, Series((1,), {(0,): entry}).exponential)
        for entry in (0, 2, -1, Q, Quotient(1, 2)):
            self.refuses(InvalidOperation, Series((1,), {(0,): entry}).logarithm)
        self.refuses(InvalidOperation, Series((1,), {}).logarithm)

    def test_equality(self):
        one = Series((1, 1), {(1, 0): 2})
        self.assertTrue(one == Series((1, 1), {(1, 0): Quotient(4, 2), (0, 1): 0}))
        self.assertFalse(one != Series((1, 1), {(1, 0): Poly((2,))}))
        for value in OTHERS + (0, Series((1, 1), {}), Series((1, 2), {(1, 0): 2}), Series((1, 1), {(0, 1): 2})):
            self.assertIs(one == value, False)
            self.assertIs(one != value, True)

    def test_values_at_integers_do_not_tell_a_whole_quotient(self):
        half = Series((2,), {(1,): Q}).times(Series((2,), {(1,): Quotient(Q.minus(1), 2)})).at((2,))
        self.assertEqual([half.at(n)[1] for n in range(-9, 10)], [1] * 19)
        self.assertIs(half.is_whole, False)

    def test_words_of_letters(self):
        found = Series((2, 3), {row: 1 for row in ((1, 0), (0, 1))}).exponential()
        self.assertEqual(found, Series((2, 3), {row: 1 for row in itertools.product(range(3), range(4))}))


if __name__ == "__main__":
    unittest.main()
