"""[2.1], [2.2] and what stands there: polynomials, quotients and Gauss numbers."""

import itertools
import math
import random
import unittest
from fractions import Fraction

from arrowsizes.errors import InvalidCount, InvalidOperation, InvalidPoly
from arrowsizes.poly import polys
from arrowsizes.poly.polys import Poly, Quotient, gauss, power_of_q, turn_count
from tests.helpers import Case, NO_INTEGERS, NO_TUPLES, OTHERS, SIXTY, SIXTY_ONE

Q = Poly((0, 1))
SPOTS = tuple(range(-9, 10)) + (1000, -12345, SIXTY, -SIXTY)


def some_rows(seed, many, longest=7, most=5):
    """Rows of coefficients that look random, the same ones on each run."""
    source = random.Random(seed)
    return [tuple([source.randint(-most, most) for _ in range(source.randint(0, longest))]) for _ in range(many)]


def rest_of(top, bottom):
    """The degree of the greatest common divisor over the fractions, by dividing with a rest."""
    one, other = [Fraction(n) for n in top], [Fraction(n) for n in bottom]
    while other:
        while len(one) >= len(other):
            factor, gap = one[-1] / other[-1], len(one) - len(other)
            one = [n - factor * other[at - gap] if at >= gap else n for at, n in enumerate(one)]
            while one and one[-1] == 0:
                one.pop()
        one, other = other, one
    return len(one) - 1


class Polys(Case):

    def same_values(self, poly, value_at):
        """The polynomial has the told value at more integers than it has coefficients."""
        for number in SPOTS + tuple(range(-len(poly), len(poly) + 1)):
            self.assertEqual(poly.at(number), value_at(number))

    def test_constant(self):
        self.assertEqual(polys.MOST_DEGREE, 100)

    def test_properties(self):
        cases = (((), (), -1, 0), ((0, 0), (), -1, 0), ((5,), (5,), 0, 5), ((0, -4, 6, 0), (0, -4, 6), 2, 2),
                 ((-SIXTY, SIXTY), (-SIXTY, SIXTY), 1, SIXTY), ((3, 5), (3, 5), 1, 1))
        for given, coefficients, degree, content in cases:
            poly = Poly(given)
            self.same(poly.coefficients, coefficients)
            self.same(poly.degree, degree)
            self.same(poly.content, content)
            self.same(len(poly), len(coefficients))

    def test_longest(self):
        self.assertEqual(Poly((0,) * 100 + (1,)).degree, 100)
        self.assertEqual(Poly((0,) * 101).degree, -1)
        self.refuses(InvalidPoly, Poly, (0,) * 102)
        self.refuses(InvalidPoly, Poly, (0,) * 101 + (1,))

    def test_refused(self):
        self.all_refused(InvalidPoly, Poly, NO_TUPLES)
        wrong = ((True,), (1, False), (SIXTY_ONE,), (-SIXTY_ONE, 1), (None,), ("1",), ((1,),), ([],), (Poly(()),))
        self.all_refused(InvalidPoly, Poly, wrong)

    def test_never_changes(self):
        poly = Poly((1, 2))
        poly.plus(1), poly.times(poly), poly.raised(3), poly.spread(2), poly.minus(poly)
        self.assertEqual(poly.coefficients, (1, 2))
        for name in ("coefficients", "degree", "content"):
            with self.assertRaises(AttributeError):
                setattr(poly, name, (1,))
        self.never_iterated(poly)

    def test_equality(self):
        self.assertTrue(Poly((1, 2, 0)) == Poly((1, 2)))
        self.assertFalse(Poly((1, 2, 0)) != Poly((1, 2)))
        self.assertTrue(Poly((1, 2)) != Poly((2, 1)))
        for value in OTHERS + (0, 1, (1, 2), Quotient(Poly((1, 2)))):
            self.assertIs(Poly((1, 2)) == value, False)
            self.assertIs(Poly((1, 2)) != value, True)
        self.assertFalse(Poly((1,)) == 1)
        self.assertFalse(Poly((1,)) == Quotient(1))

    def test_sums_and_products_by_values(self):
        rows = some_rows(1, 25) + [(), (1,), (-1,), (SIXTY,) * 3, (0,) * 40 + (7,)]
        for one, other in itertools.product(rows, repeat=2):
            left, right = Poly(one), Poly(other)
            self.same_values(left.plus(right), lambda n: left.at(n) + right.at(n))
            self.same_values(left.minus(right), lambda n: left.at(n) - right.at(n))
            self.same_values(left.times(right), lambda n: left.at(n) * right.at(n))

    def test_long_products(self):
        for many, most in ((21, 1), (60, 3), (101, 9), (101, SIXTY)):
            for one, other in zip(some_rows(many, 8, many, most), some_rows(many + 1, 8, many, most)):
                found = [0] * (len(one) + len(other))
                for at, number in enumerate(one):
                    for other_at, factor in enumerate(other):
                        found[at + other_at] += number * factor
                told = Poly(one).times(Poly(other)).coefficients
                self.assertEqual(list(told) + [0] * (len(found) - len(told)), found)
                self.assertTrue(not told or told[-1] != 0)

    def test_greatest_products(self):
        most = 2 ** 190 - 1
        for many in (1, 2, 31, 32, 63, 64, 101):
            for sign in (1, -1):
                told = [sign * most * most * min(at + 1, 2 * many - 1 - at) for at in range(2 * many - 1)]
                found = Poly((most,) * many).times(Poly((sign * most,) * many))
                self.assertEqual(found.coefficients, tuple(told))

    def test_with_integers(self):
        self.assertEqual(Poly((1, 2)).plus(3).coefficients, (4, 2))
        self.assertEqual(Poly((1, 2)).minus(1).coefficients, (0, 2))
        self.assertEqual(Poly((1, 2)).times(-2).coefficients, (-2, -4))
        self.assertEqual(Poly((1, 2)).times(0).coefficients, ())
        self.assertEqual(Poly((3,)).minus(3).coefficients, ())
        self.assertEqual(Poly((1,)).plus(SIXTY).coefficients, (SIXTY_ONE,))

    def test_made_ones_may_be_longer(self):
        long = Poly((SIXTY,) + (0,) * 99 + (SIXTY,))
        many = long.times(long)
        self.assertEqual((many.degree, many.coefficients[0]), (200, SIXTY ** 2))
        self.assertEqual(many.plus(many).minus(many), many)
        self.assertEqual(many.times(Poly((1, 1))).at(1), 8 * SIXTY ** 2)
        self.assertEqual(Quotient(many, long), Quotient(long))
        self.assertEqual(Poly((SIXTY,)).plus(Poly((1,))).content, SIXTY_ONE)

    def test_operands_refused(self):
        wrong = tuple([value for value in NO_INTEGERS if not isinstance(value, Poly)])
        for name in ("plus", "minus", "times"):
            self.all_refused(InvalidPoly, getattr(Poly((1, 2)), name), wrong)

    def test_raised(self):
        for row in some_rows(2, 12, 4, 3) + [(), (1,), (-2,), (0, 1)]:
            poly, told = Poly(row), Poly((1,))
            for many in range(41):
                if many in (0, 1, 2, 3, 5, 8, 13, 39, 40):
                    self.assertEqual(poly.raised(many), told)
                told = told.times(poly)
        self.assertEqual(Poly(()).raised(0).coefficients, (1,))
        self.assertEqual(Poly((1, 1)).raised(40).coefficients, tuple([math.comb(40, k) for k in range(41)]))
        self.assertEqual(Poly((0,) * 100 + (SIXTY,)).raised(40).coefficients, (0,) * 4000 + (SIXTY ** 40,))

    def test_spread(self):
        for row in some_rows(3, 20) + [(), (4,)]:
            poly = Poly(row)
            for many in (1, 2, 3, 40):
                self.same_values(poly.spread(many), lambda n: sum([c * n ** (many * k) for k, c in enumerate(row)]))
        self.assertEqual(Poly((0,) * 100 + (1,)).spread(40).degree, 4000)

    def test_at(self):
        self.same(Poly((1, -2, 0, 1)).at(SIXTY), 1 - 2 * SIXTY + SIXTY ** 3)
        self.same(Poly(()).at(5), 0)
        self.same(Poly((7, 1)).at(0), 7)

    def test_counts_refused(self):
        poly = Poly((1, 2))
        self.not_counts(poly.raised, 0, 40)
        self.not_counts(poly.spread, 1, 40)
        self.all_refused(InvalidCount, poly.at, NO_INTEGERS)

    def test_texts(self):
        cases = (((), "0"), ((1,), "1"), ((-1,), "-1"), ((0, 1), "q"), ((0, -1), "-q"), ((0, 2), "2*q"), ((1, 1), "q + 1"),
                 ((-1, 1), "q - 1"), ((1, -2, 0, 1), "q^3 - 2*q + 1"), ((0, 0, -3), "-3*q^2"), ((-5, 0, -1), "-q^2 - 5"),
                 ((0, -1, 10), "10*q^2 - q"), ((SIXTY, 1), f"q + {SIXTY}"))
        for row, told in cases:
            self.same(str(Poly(row)), told)


class Quotients(Case):

    def lowest(self, quotient, top, bottom):
        """The quotient is that of two polynomials, in lowest terms, which multiplying over and divisors tell."""
        self.assertEqual(quotient.top.times(bottom), quotient.bottom.times(top))
        self.assertGreater(quotient.bottom.coefficients[-1], 0)
        self.assertEqual(rest_of(quotient.top.coefficients, quotient.bottom.coefficients), 0)
        self.assertEqual(math.gcd(quotient.top.content, quotient.bottom.content), 1)
        self.assertIs(quotient.is_whole, quotient.bottom.coefficients == (1,))

    def some_quotients(self, seed, many):
        found = []
        for top, bottom, both in zip(some_rows(seed, many, 5), some_rows(seed + 1, many, 5), some_rows(seed + 2, many, 4)):
            both = Poly(both) if any(both) else Poly((6,))
            if any(bottom):
                found.append((Poly(top).times(both), Poly(bottom).times(both)))
        return found

    def test_lowest_terms(self):
        for top, bottom in self.some_quotients(10, 400):
            self.lowest(Quotient(top, bottom), top, bottom)

    def test_lowest_terms_of_long_ones(self):
        rows = [Poly(row + (3,)) for row in some_rows(20, 40, 60, 10 ** 12)]
        for one, two, three in zip(rows, rows[1:], rows[2:]):
            top, bottom = one.times(two), two.times(three).times(-6)
            found = Quotient(top, bottom)
            self.assertEqual(found.top.times(bottom), found.bottom.times(top))
            self.assertLessEqual(found.bottom.degree, three.degree)
            self.assertGreater(found.bottom.coefficients[-1], 0)

    def test_lowest_terms_of_powers_less_one(self):
        for one in range(1, 31):
            for other in range(1, 31):
                top, bottom = Q.raised(one).minus(1), Q.raised(other).minus(1)
                shared = math.gcd(one, other)
                self.assertEqual(Quotient(top, bottom).bottom.degree, other - shared)
                self.lowest(Quotient(top, bottom), top, bottom)

    def test_whole_ones_with_greater_coefficients(self):
        for many in (3, 8, 14, 20, 26):
            top, bottom = Poly((1,)), Poly((1,))
            for power in range(1, many + 1):
                top = top.times(Q.raised(power).times(Q.raised(many)).minus(1))
                bottom = bottom.times(Q.raised(power).minus(1))
            found = Quotient(top, bottom)
            self.assertIs(found.is_whole, True)
            self.assertEqual(found.top.times(bottom), top)
            self.assertEqual(found.at(1), (math.comb(2 * many, many), 1))
            self.assertEqual(Quotient(bottom.times(3), top.times(-2)), Quotient(-3, found.top.times(2)))

    def test_shared_values_that_no_divisor_makes(self):
        source = random.Random(5)
        for _ in range(3000):
            shared, left, right = [Poly((source.randint(-99, 99), source.randint(1, 9))) for _ in range(3)]
            found = Quotient(shared.times(left).times(left), shared.times(right))
            self.assertEqual(found, Quotient(left.times(left), right))
            self.lowest(found, left.times(left), right)

    def test_edges(self):
        cases = ((0, -5, (), (1,)), (Poly(()), Q, (), (1,)), (6, -4, (-3,), (2,)), (1, 1, (1,), (1,)), (Q, Q, (1,), (1,)),
                 (Poly((0, 0, 2)), Poly((0, -4)), (0, -1), (2,)), (SIXTY, SIXTY, (1,), (1,)),
                 (Poly((2, 2)), Poly((4, 4)), (1,), (2,)), (Poly((-1, 0, 1)), Poly((1, -1)), (-1, -1), (1,)))
        for top, bottom, told_top, told_bottom in cases:
            found = Quotient(top, bottom)
            self.assertEqual((found.top.coefficients, found.bottom.coefficients), (told_top, told_bottom))
        self.assertEqual(Quotient(Q), Quotient(Q, 1))
        self.assertIs(Quotient(Q).is_whole, True)
        self.assertIs(Quotient(1, 2).is_whole, False)
        self.assertIs(Quotient(0, 2).is_whole, True)
        self.assertIsInstance(Quotient(1).top, Poly)

    def test_whole_at_all_integers_but_not_whole(self):
        half = Quotient(Q.times(Q.minus(1)), 2)
        self.assertEqual({half.at(n)[1] for n in range(-20, 21)}, {1})
        self.assertIs(half.is_whole, False)

    def test_made_refused(self):
        wrong = tuple([value for value in NO_INTEGERS if not isinstance(value, Poly)])
        self.all_refused(InvalidPoly, Quotient, wrong)
        self.all_refused(InvalidPoly, lambda value: Quotient(1, value), wrong)
        for bottom in (0, Poly(()), Poly((0, 0))):
            self.refuses(InvalidOperation, Quotient, 1, bottom)
        self.refuses(InvalidPoly, Quotient, True, 0)

    def test_reckoning_by_values(self):
        quotients = [Quotient(top, bottom) for top, bottom in self.some_quotients(30, 22)]
        for one, other in itertools.product(quotients, repeat=2):
            found = [(one.plus(other), lambda a, b: a + b), (one.minus(other), lambda a, b: a - b),
                     (one.times(other), lambda a, b: a * b)]
            if other.top.degree >= 0:
                found.append((one.over(other), lambda a, b: a / b))
            for quotient, rule in found:
                self.lowest(quotient, quotient.top, quotient.bottom)
                for number in (2, -3, 7, 10 ** 20):
                    if 0 not in (one.bottom.at(number), other.bottom.at(number), other.top.at(number)):
                        told = rule(Fraction(*one.at(number)), Fraction(*other.at(number)))
                        self.assertEqual(quotient.at(number), (told.numerator, told.denominator))

    def test_reckoning_undone(self):
        for top, bottom in self.some_quotients(40, 60):
            one, other = Quotient(top, bottom), Quotient(bottom.plus(Q.raised(9)), Poly((1, 3)))
            self.assertEqual(one.plus(other).minus(other), one)
            self.assertEqual(one.times(other).over(other), one)
            self.assertEqual(one.minus(one), Quotient(0))

    def test_other_kinds_of_operands(self):
        half = Quotient(1, 2)
        for other, told in ((3, 3), (Poly((3,)), 3), (Quotient(3), 3), (0, 0)):
            self.assertEqual(half.plus(other), Quotient(1 + 2 * told, 2))
            self.assertEqual(half.minus(other), Quotient(1 - 2 * told, 2))
            self.assertEqual(half.times(other), Quotient(told, 2))
            if told:
                self.assertEqual(half.over(other), Quotient(1, 6))
        self.assertEqual(half.over(Q), Quotient(1, Poly((0, 2))))

    def test_operands_refused(self):
        wrong = tuple([value for value in NO_INTEGERS if not isinstance(value, (Poly, Quotient))])
        for name in ("plus", "minus", "times", "over"):
            self.all_refused(InvalidPoly, getattr(Quotient(1, 2), name), wrong)
        for zero in (0, Poly(()), Quotient(0)):
            self.refuses(InvalidOperation, Quotient(1, 2).over, zero)
            self.refuses(InvalidOperation, Quotient(0).over, zero)

    def test_raised(self):
        for top, bottom in self.some_quotients(50, 30):
            one = Quotient(top, bottom)
            told = Quotient(1)
            for many in range(5):
                self.assertEqual(one.raised(many), told)
                if top.degree >= 0:
                    self.assertEqual(one.raised(-many), Quotient(1).over(told))
                told = told.times(one)
        self.assertEqual(Quotient(1, Poly((-1, 1))).raised(-40), Quotient(Poly((-1, 1)).raised(40)))
        self.assertEqual(Quotient(Poly((1, 1)), -2).raised(40), Quotient(Poly((1, 1)).raised(40), 2 ** 40))
        self.assertEqual(Quotient(-1, Q).raised(-3), Quotient(Poly((0, 0, 0, -1))))
        self.assertEqual(Quotient(0).raised(0), Quotient(1))
        self.assertEqual(Quotient(0).raised(40), Quotient(0))

    def test_raised_refused(self):
        self.not_counts(Quotient(1, 2).raised, -40, 40)
        for many in (-1, -40):
            self.refuses(InvalidOperation, Quotient(0).raised, many)
        self.refuses(InvalidCount, Quotient(0).raised, -41, value=-41)

    def test_spread(self):
        for top, bottom in self.some_quotients(60, 30):
            one = Quotient(top, bottom)
            for many in (1, 2, 5, 40):
                self.assertEqual(one.spread(many), Quotient(one.top.spread(many), one.bottom.spread(many)))
                self.lowest(one.spread(min(many, 5)), one.top.spread(min(many, 5)), one.bottom.spread(min(many, 5)))
        self.not_counts(Quotient(1, 2).spread, 1, 40)

    def test_at(self):
        one = Quotient(Poly((0, 1)), Poly((-2, 1)))
        self.same(one.at(0), (0, 1))
        self.same(one.at(1), (-1, 1))
        self.same(one.at(5), (5, 3))
        self.same(one.at(-2), (1, 2))
        self.same(one.at(SIXTY), (SIXTY, SIXTY - 2))
        self.same(Quotient(Poly((-1, 0, 1)), Poly((-1, 1))).at(1), (2, 1))
        self.refuses(InvalidOperation, one.at, 2)
        self.all_refused(InvalidCount, one.at, NO_INTEGERS)

    def test_equality(self):
        self.assertTrue(Quotient(2, 4) == Quotient(1, 2))
        self.assertFalse(Quotient(2, 4) != Quotient(1, 2))
        for value in OTHERS + (0, 1, Poly((1,)), Poly(()), Quotient(1, Q), Quotient(2)):
            if not (isinstance(value, Quotient) and value.top == Poly((1,)) and value.is_whole):
                self.assertIs(Quotient(1) == value, False)
                self.assertIs(Quotient(1) != value, True)

    def test_texts(self):
        cases = ((Quotient(Poly((1, 1)), Poly((-1, 1))), "(q + 1)/(q - 1)"), (Quotient(0), "0"), (Quotient(3), "3"),
                 (Quotient(Q, 2), "(q)/(2)"), (Quotient(-1, 2), "(-1)/(2)"), (Quotient(Poly((1, -2, 0, 1))), "q^3 - 2*q + 1"))
        for quotient, told in cases:
            self.same(str(quotient), told)

    def test_never_changes(self):
        one = Quotient(1, 2)
        one.plus(1), one.times(one), one.over(one), one.raised(3), one.spread(2), one.minus(one)
        self.assertEqual(str(one), "(1)/(2)")
        for name in ("top", "bottom", "is_whole"):
            with self.assertRaises(AttributeError):
                setattr(one, name, Q)
        self.never_iterated(one)


class Gauss(Case):

    def test_by_its_fraction(self):
        for top in range(13):
            for low in range(13):
                above, below = Poly((1,)), Poly((1,))
                for at in range(low):
                    above = above.times(Q.raised(top - at).minus(1) if top >= at else 0)
                    below = below.times(Q.raised(at + 1).minus(1))
                self.assertEqual(gauss(top, low).times(below), above if low <= top else Poly(()))

    def test_both_ends(self):
        for top in range(13):
            for low in range(top + 1):
                row = gauss(top, low).coefficients
                self.assertEqual(row, row[::-1])
                self.assertEqual(gauss(top, low), gauss(top, top - low))
                self.assertEqual(gauss(top, low).degree, low * (top - low))
                self.assertEqual(gauss(top, low).at(1), math.comb(top, low))

    def test_triangle(self):
        for top in range(1, 13):
            for low in range(1, top + 1):
                told = gauss(top - 1, low).plus(gauss(top - 1, low - 1).times(Q.raised(top - low)))
                self.assertEqual(gauss(top, low), told)

    def test_subspaces_of_small_spaces(self):
        vectors = list(itertools.product((0, 1), repeat=3))
        spaces = set()
        for lot in itertools.product(vectors, repeat=3):
            sums = [tuple([sum([k * v[at] for k, v in zip(ks, lot)]) % 2 for at in range(3)])
                    for ks in itertools.product((0, 1), repeat=3)]
            spaces.add(frozenset(sums))
        for low in range(4):
            self.assertEqual(gauss(3, low).at(2), len([space for space in spaces if len(space) == 2 ** low]))

    def test_turn_count(self):
        for size in range(10):
            told = Poly((1,))
            for at in range(size):
                told = told.times(Q.raised(size).minus(Q.raised(at)))
            self.assertEqual(turn_count(size), told)
        self.assertEqual(turn_count(0), Poly((1,)))
        for prime in (2, 3):
            tables = itertools.product(range(prime), repeat=4)
            self.assertEqual(turn_count(2).at(prime), len([1 for a, b, c, d in tables if (a * d - b * c) % prime]))

    def test_power_of_q(self):
        for many in range(-100, 101):
            found = power_of_q(many)
            self.assertEqual(found.at(2), (2 ** many, 1) if many >= 0 else (1, 2 ** -many))
            self.assertIs(found.is_whole, many >= 0)
        self.assertEqual(power_of_q(0), Quotient(1))
        self.assertIsInstance(power_of_q(3), Quotient)
        self.assertEqual(power_of_q(7).times(power_of_q(-9)), power_of_q(-2))

    def test_refused(self):
        self.not_counts(lambda value: gauss(value, 2), 0, 12)
        self.not_counts(lambda value: gauss(2, value), 0, 12)
        self.refuses(InvalidCount, gauss, 13, True, value=13)
        self.refuses(InvalidCount, gauss, False, 13, value=False)
        self.not_counts(turn_count, 0, 9)
        self.not_counts(power_of_q, -100, 100)


if __name__ == "__main__":
    unittest.main()
