"""[1.3], [1.4] and what stands there: numbers, and the conventions of integers."""

import itertools
import math
import unittest
from fractions import Fraction

from arrowsizes.base import numbers
from arrowsizes.base.numbers import (
    binomial, common_divisor, divisors, fraction, is_integer, is_name, is_prime, moebius, rows_below)
from arrowsizes.errors import InvalidCount, InvalidOperation, InvalidSizes, TooMany
from tests.helpers import Case, NO_INTEGERS, NO_TUPLES, OTHERS, SIXTY, SIXTY_ONE, all_rows

BILLION = 10 ** 9
LARGE = 999999937  # the greatest prime below 10 ** 9


class Judges(Case):

    def test_constants(self):
        self.assertEqual((numbers.MAX_NAME, numbers.MAX_FACTORED, numbers.MAX_CHOSEN, numbers.MAX_BELOW),
                         (8, 10 ** 9, 1000, 3000))

    def test_is_integer(self):
        for value in (0, 1, -1, 5, SIXTY, -SIXTY):
            self.assertIs(is_integer(value), True)
        for value in NO_INTEGERS + ([True], (0,), 10 ** 100 - 1):
            self.assertIs(is_integer(value), False)

    def test_is_name(self):
        for value in ("a", "z", "abc", "abcdefgh", "zzzzzzzz"):
            self.assertIs(is_name(value), True)
        wrong = ("", "abcdefghi", "A", "Ab", "a1", "a b", " a", "a\n", "a_b", "`", "{", "a-b", b"a", ("a",), ["a"], 1)
        for value in wrong + OTHERS:
            self.assertIs(is_name(value), False, value)

    def test_is_prime_small(self):
        primes = [n for n in range(2, 500) if all([n % k for k in range(2, n)])]
        self.assertEqual([n for n in range(-5, 500) if is_prime(n)], primes)

    def test_is_prime_edges(self):
        for value in (2, 3, LARGE, 31607, 999999929):
            self.assertIs(is_prime(value), True, value)
        for value in (-2, -7, 0, 1, 4, BILLION, BILLION + 7, 31607 * 31627, 31607 ** 2, 2 ** 61 - 1, SIXTY):
            self.assertIs(is_prime(value), False, value)
        for value in NO_INTEGERS:
            self.assertIs(is_prime(value), False)


class Divisors(Case):

    def test_common_divisor(self):
        cases = (((), 0), ((0,), 0), ((0, 0), 0), ((0, -4), 4), ((12, -18, 0), 6), ((-7,), 7), ((5, 7), 1), ((SIXTY, -SIXTY), SIXTY))
        for given, told in cases:
            self.same(common_divisor(given), told)

    def test_common_divisor_divides(self):
        for given in itertools.product(range(-12, 13), repeat=2):
            found = [n for n in range(1, 13) if all([number % n == 0 for number in given])]
            self.assertEqual(common_divisor(given), max(found) if any(given) else 0)

    def test_common_divisor_refuses(self):
        self.all_refused(InvalidOperation, common_divisor, NO_TUPLES)
        self.all_refused(InvalidOperation, common_divisor, (1, [1, 2], (True,), (1, False), (1, "2"), (SIXTY_ONE,), (1, None), ((1,),)))

    def test_divisors(self):
        for number in range(1, 400):
            self.assertEqual(divisors(number), tuple([n for n in range(1, number + 1) if number % n == 0]))

    def test_divisors_large(self):
        self.assertEqual(divisors(LARGE), (1, LARGE))
        self.assertEqual(divisors(31607 * 31627), (1, 31607, 31627, 31607 * 31627))
        self.assertEqual(divisors(31607 ** 2), (1, 31607, 31607 ** 2))
        self.assertEqual(divisors(BILLION), tuple(sorted([2 ** a * 5 ** b for a in range(10) for b in range(10)])))

    def test_sign_numbers_of_all_divisors_add_up(self):
        for number in tuple(range(1, 300)) + (BILLION, LARGE, 31607 * 31627, 2 * 3 * 5 * 7 * 11 * 13 * 17 * 19 * 23):
            self.assertEqual(sum([moebius(n) for n in divisors(number)]), 1 if number == 1 else 0)

    def test_moebius(self):
        told = [moebius(n) for n in range(1, 13)]
        self.assertEqual(told, [1, -1, -1, 0, -1, 1, -1, 0, 0, 1, -1, 0])
        self.assertEqual([moebius(n) for n in (LARGE, 31607 * 31627, 31607 ** 2, BILLION, 223092870, 2 * 31607 ** 1)],
                         [-1, 1, 0, 0, -1, 1])

    def test_refused(self):
        for call in (divisors, moebius):
            self.all_refused(InvalidCount, call, NO_INTEGERS + (0, -1, -SIXTY))
            for number in (BILLION + 1, SIXTY):
                self.refuses(TooMany, call, number, limit=BILLION)


class Counts(Case):

    def test_binomial_triangle(self):
        line = [1]
        for top in range(40):
            self.assertEqual([binomial(top, low) for low in range(top + 3)], line + [0, 0])
            line = [1] + [line[at] + line[at + 1] for at in range(top)] + [1]

    def test_binomial_sums(self):
        for top in (100, 1000):
            self.assertEqual(sum([binomial(top, low) for low in range(top + 1)]), 2 ** top)
        self.assertEqual([binomial(0, 0), binomial(1000, 0), binomial(1000, 1000), binomial(0, 1000)], [1, 1, 1, 0])

    def test_binomial_refuses(self):
        self.not_counts(lambda value: binomial(value, 2), 0, 1000)
        self.not_counts(lambda value: binomial(2, value), 0, 1000)
        self.refuses(InvalidCount, binomial, 1001, -1, value=1001)
        self.refuses(InvalidCount, binomial, True, None, value=True)
        self.refuses(InvalidCount, binomial, 3, False, value=False)

    def test_fraction(self):
        for top in range(-12, 13):
            for bottom in [n for n in range(-12, 13) if n]:
                told = Fraction(top, bottom)
                self.same(fraction(top, bottom), (told.numerator, told.denominator))
        self.same(fraction(0, -SIXTY), (0, 1))
        self.same(fraction(SIXTY, -SIXTY), (-1, 1))
        self.same(fraction(1, SIXTY), (1, SIXTY))

    def test_fraction_refuses(self):
        self.all_refused(InvalidCount, lambda value: fraction(value, 1), NO_INTEGERS)
        self.all_refused(InvalidCount, lambda value: fraction(1, value), NO_INTEGERS + (0,))
        self.refuses(InvalidCount, fraction, True, 0, value=True)
        self.refuses(InvalidCount, fraction, 2, 0, value=0)
        self.refuses(InvalidCount, fraction, 2, False, value=False)


class Rows(Case):

    def test_rows_below(self):
        for sizes in ((0,), (6,), (2, 1), (0, 0, 0), (1, 2, 3), (1, 1, 1, 1, 1, 1), (6, 6, 6)):
            self.same(rows_below(sizes), tuple(sorted(all_rows(*sizes))))

    def test_rows_below_limit(self):
        most = (6, 6, 6, 6, 0, 0)
        self.assertEqual(len(rows_below(most)), math.prod([size + 1 for size in most]))
        self.refuses(TooMany, rows_below, (6, 6, 6, 6, 1), limit=3000)
        self.refuses(TooMany, rows_below, (6, 6, 6, 6, 6, 6), limit=3000)
        self.assertEqual(len(rows_below((4, 4, 4, 5, 3))), 3000)
        self.refuses(TooMany, rows_below, (6, 5, 2, 5, 3), limit=3000)

    def test_rows_below_refuses(self):
        wrong = ((), (7,), (-1,), (1,) * 7, [1], (True,), (1, False), ("1",), ((1,),), 1, (1, SIXTY_ONE), (6,) * 7)
        self.all_refused(InvalidSizes, rows_below, wrong)
        self.all_refused(InvalidSizes, rows_below, NO_TUPLES)


if __name__ == "__main__":
    unittest.main()
