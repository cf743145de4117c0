"""[0.12] to [0.14], [0.18], [11.1] to [11.7] and what stands there: counts by partitions."""

import fractions
import itertools
import random
import unittest

from arrowsizes.base.numbers import moebius
from arrowsizes.chart.plans import Plan, are_joined
from arrowsizes.counted import counts as module
from arrowsizes.counted.counts import (
    firm_poly, firm_polys, joining_poly, joining_sets, kinds_at, partition_sum, put_together, taken_apart, unsplittable_at)
from arrowsizes.errors import InvalidCount, InvalidPlan, InvalidSizes, TooMany
from arrowsizes.fixed.kinds import all_kinds, kinds_number, unsplittable_number
from arrowsizes.origin.roots import is_root, multiplicities, root_paper
from arrowsizes.poly.polys import Poly, Quotient, power_of_q
from arrowsizes.poly.series import Series
from arrowsizes.slices.partitions import product_number, rows_of_parts, turns_of
from arrowsizes.split.splits import is_firm
from tests.helpers import Case, NO_INTEGERS, NO_TUPLES, OTHERS, SIXTY, SIXTY_ONE, all_rows
from tests.some_fillings import BARE, BOTH_WAYS
from tests.test_plans import APART, BENT, FULL, NO_PLANS, POINT, RING, STAR, THRICE, TWINS, some_plans

Q = Poly((0, 1))
CHAIN = Plan.line(3)
# Plans and sizes with at most sixty rows below them.
LOTS = ((TWINS, (3, 3)), (THRICE, (3, 2)), (STAR, (2, 1, 1, 1)), (BENT, (2, 2, 1)), (RING, (1, 2, 2)), (POINT, (6,)), (BARE, (3, 2)), (BOTH_WAYS, (2, 4)),
        (APART, (1, 1, 1, 0, 2, 1)), (FULL, (1, 1, 1, 1, 1, 0)), (Plan.twins(9), (2, 3)), (CHAIN, (2, 2, 2)), (Plan.star(4), (2, 1, 1, 1, 1)),
        (Plan(3, ((0, 1), (1, 0), (1, 2))), (2, 2, 1)), (TWINS, (0, 5)))
NO_SIZES = NO_TUPLES + ((), (1,), (1, 7), (True, 1), [1, 1], (1, -1), (1, None), (SIXTY_ONE, 1), (1, 1, 1))
FIELDS = (2, 3, 4, 5, 6, 7, 10, 12, 49, 99, 100)


def rows_to(sizes):
    return [row for row in all_rows(*sizes) if any(row)]


def lesser(row, other):
    return tuple([a - b for a, b in zip(row, other)])


def divides(many, row):
    return all([size % many == 0 for size in row])


class Sums(Case):

    def test_constants(self):
        self.same((module.MOST_ROWS, module.MOST_FIELD), (400, 100))

    def test_partition_sum(self):
        for plan, sizes in LOTS:
            total = Quotient(0)
            for parts in rows_of_parts(sizes):
                power = sum([product_number(parts[i], parts[j]) for i, j in plan.arrows])
                bottom = Poly((1,))
                for told in parts:
                    bottom = bottom.times(turns_of(told))
                total = total.plus(Quotient(Poly((0,) * min(power, 100) + (1,)), bottom).times(power_of_q(max(power - 100, 0))))
            found = partition_sum(plan, sizes)
            self.assertEqual(found, total)
            self.assertIsInstance(found, Quotient)
        self.assertEqual(partition_sum(FULL, (0,) * 6), Quotient(1))

    def test_by_series(self):
        """The polynomials are (q - 1) times the logarithm of the series of the sums."""
        for plan, sizes in LOTS:
            series = Series(sizes, {row: partition_sum(plan, row) for row in all_rows(*sizes)}).logarithm()
            found = firm_polys(plan, sizes)
            self.assertEqual(list(found), rows_to(sizes))
            for row, poly in found.items():
                self.assertIsInstance(poly, Poly)
                told = series.at(row).times(Poly((-1, 1)))
                self.assertTrue(told.is_whole)
                self.assertEqual(told.top, poly)

    def test_polys_and_poly(self):
        for plan, sizes in LOTS:
            found = firm_polys(plan, sizes)
            for row in random.Random(1).sample(rows_to(sizes), min(8, len(rows_to(sizes)))):
                self.assertEqual(firm_poly(plan, row), found[row])
            self.assertEqual(firm_polys(plan, sizes), found)

    def test_roots_and_degrees(self):
        for plan, sizes in LOTS + tuple([(plan, (1,) * plan.size) for plan in some_plans(2, 12)]):
            many = multiplicities(plan, sizes)
            for row, poly in firm_polys(plan, sizes).items():
                kind = root_paper(plan, row)[0]
                self.assertGreaterEqual(min(poly.coefficients, default=0), 0)
                self.assertIs(poly == Poly(()), not is_root(plan, row))
                self.assertIs(poly == Poly((1,)), kind == "real")
                self.assertEqual(poly.at(0), many.get(row, 0))
                if kind == "imaginary":
                    self.assertEqual((poly.degree, poly.coefficients[-1]), (1 - plan.norm(row), 1))
                if not are_joined(plan, row):
                    self.assertEqual(poly, Poly(()))

    def test_turned_round_and_reflected(self):
        for plan, sizes in LOTS:
            found = firm_polys(plan, sizes)
            self.assertEqual(firm_polys(plan.opposite(), sizes), found)
            for point in range(plan.size):
                self.assertEqual(firm_polys(plan.turned_at(point), sizes), found)
            for row in rows_to(sizes):
                for point in range(plan.size):
                    other = plan.reflected(row, point)
                    if any(row[:point] + row[point + 1:]) and other in found:
                        self.assertEqual(found[other], found[row])

    def test_great_sizes(self):
        """More rows than a series has, and more arrows than fields of small sizes can tell."""
        for plan, sizes in ((Plan.twins(9), (5, 5)), (Plan.twins(1), (6, 4)), (RING, (3, 3, 3)), (Plan(4, ((0, 1), (1, 2), (2, 3), (3, 0))), (2, 2, 2, 2)), (FULL, (1,) * 6)):
            poly = firm_poly(plan, sizes)
            if is_root(plan, sizes):
                self.assertEqual((poly.degree, poly.coefficients[-1], poly.at(0)), (1 - plan.norm(sizes), 1, poly.coefficients[0]))
            else:
                self.assertEqual(poly, Poly(()))
        self.assertEqual(firm_poly(RING, (3, 3, 3)).coefficients, (2, 1))

    def test_not_the_same_from_both_ends(self):
        self.assertEqual(firm_poly(THRICE, (2, 2)).coefficients, (1, 3, 3, 3, 1, 1))
        self.assertEqual(firm_poly(BENT, (1, 1, 1)).coefficients, (2, 1))

    def test_bound(self):
        """Four hundred rows of partitions: so many go, and no more."""
        calls = (partition_sum, firm_poly, firm_polys, lambda plan, sizes: kinds_at(plan, sizes, 2), lambda plan, sizes: unsplittable_at(plan, sizes, 2))
        for call in calls:
            for plan, sizes in ((BARE, (6, 4)), (Plan.twins(9), (5, 5)), (RING, (3, 3, 3)), (Plan(4, ()), (2, 2, 2, 2)), (Plan(6, ()), (2, 2, 2, 1, 0, 0)),
                                (Plan.line(4), (3, 3, 2, 1))):
                call(plan, sizes)
            for plan, sizes in ((BARE, (6, 5)), (CHAIN, (6, 3, 1)), (RING, (3, 3, 4)), (Plan(6, ()), (2, 2, 2, 1, 1, 1)), (FULL, (6,) * 6), (Plan(5, ()), (2, 2, 2, 2, 1)), (Plan.twins(9), (6, 6))):
                self.refuses(TooMany, call, plan, sizes, limit=400)

    def test_errors(self):
        with_zeros = (partition_sum, lambda plan, sizes: kinds_at(plan, sizes, 2))
        without = (firm_poly, firm_polys, lambda plan, sizes: unsplittable_at(plan, sizes, 2))
        for call in with_zeros + without:
            self.all_refused(InvalidPlan, lambda value: call(value, (1, 1)), NO_PLANS)
            self.all_refused(InvalidSizes, lambda value: call(TWINS, value), NO_SIZES)
            self.refuses(InvalidPlan, call, None, None)
        for call in with_zeros:
            call(TWINS, (0, 0))
        for call in without:
            self.refuses(InvalidSizes, call, TWINS, (0, 0))
            self.refuses(InvalidSizes, call, FULL, (0,) * 6)


class Numbers(Case):

    def test_against_fixed_fillings(self):
        for plan, sizes, primes in ((TWINS, (2, 2), (2, 3)), (THRICE, (2, 2), (2, 3)), (STAR, (2, 1, 1, 1), (2, 3)), (BENT, (1, 2, 1), (2, 3)), (RING, (2, 1, 2), (2, 3)),
                                    (BOTH_WAYS, (1, 2), (2, 3, 5, 7)), (TWINS, (3, 2), (2,)), (FULL, (1,) * 6, (2, 3)), (APART, (1, 2, 1, 0, 2, 1), (2,)), (BARE, (2, 1), (5,)),
                                    (POINT, (3,), (2, 3)), (TWINS, (1, 1), (2, 3, 5, 7)), (TWINS, (0, 2), (3,)), (Plan.twins(9), (1, 2), (7,))):
            for prime in primes:
                self.same(kinds_at(plan, sizes, prime), kinds_number(plan, sizes, prime))
                self.same(unsplittable_at(plan, sizes, prime), unsplittable_number(plan, sizes, prime))

    def test_firm_kinds(self):
        for plan, sizes, prime in ((TWINS, (2, 2), 2), (TWINS, (1, 1), 7), (THRICE, (1, 2), 2), (BENT, (1, 2, 1), 2), (RING, (1, 1, 2), 3), (STAR, (2, 1, 1, 1), 2),
                                   (BOTH_WAYS, (2, 2), 2), (BARE, (1, 1), 3), (Plan.star(4), (2, 1, 1, 1, 1), 2)):
            told = len([filling for filling in all_kinds(plan, sizes, prime) if is_firm(filling)])
            self.assertEqual(firm_poly(plan, sizes).at(prime), told)

    def test_sums_of_values(self):
        """[11.3], reckoned with fractions."""
        for plan, sizes in LOTS:
            polys, zeros = firm_polys(plan, sizes), (0,) * plan.size
            for number in FIELDS:
                n = {row: sum([fractions.Fraction(polys[tuple([size // k for size in row])].at(number ** k), k) for k in range(1, 7) if divides(k, row)]) for row in polys}
                m = self.exponential(all_rows(*sizes), n)
                self.same(kinds_at(plan, sizes, number), int(m[sizes]))
                told = 0
                for r in [r for r in range(1, 7) if divides(r, sizes)]:
                    part = polys[tuple([size // r for size in sizes])]
                    told += fractions.Fraction(sum([moebius(r // k) * part.at(number ** k) for k in range(1, r + 1) if r % k == 0]), r)
                self.same(unsplittable_at(plan, sizes, number), int(told))
                self.assertEqual((m[sizes].denominator, told.denominator), (1, 1))
                self.same(kinds_at(plan, zeros, number), 1)

    def exponential(self, rows, n):
        """The sum of the powers of a series, divided by k!, for the last row."""
        total, power = {row: fractions.Fraction(int(not any(row))) for row in rows}, {rows[0]: fractions.Fraction(1)}
        for k in range(1, sum(rows[-1]) + 1):
            following = {}
            for one, value in power.items():
                for other, more in n.items():
                    row = tuple([a + b for a, b in zip(one, other)])
                    if row in total and more:
                        following[row] = following.get(row, 0) + value * more / k
            power = following
            for row, value in power.items():
                total[row] += value
        return total

    def test_fields_that_are_none(self):
        self.assertEqual([kinds_at(TWINS, (1, 1), number) for number in (2, 6, 100)], [4, 8, 102])
        self.assertEqual([unsplittable_at(TWINS, (2, 2), number) for number in (2, 6, 10)], [4, 22, 56])
        self.assertEqual([unsplittable_at(TWINS, (2, 0), number) for number in (2, 6)], [0, 0])

    def test_unsplittable_numbers_have_fractions(self):
        """The numbers of unsplittable kinds are told by a polynomial, but not by one with integers."""
        values = [unsplittable_at(TWINS, (2, 2), number) for number in range(2, 8)]
        self.assertEqual(values, [number + 1 + (number * number - number) // 2 for number in range(2, 8)])

    def test_taken_apart_by_fields(self):
        for plan, sizes in LOTS:
            for number in (2, 5, 6):
                kinds = {row: kinds_at(plan, row, number) for row in all_rows(*sizes)[:30]}
                if len(kinds) == len(all_rows(*sizes)):
                    parts = {row: unsplittable_at(plan, row, number) for row in rows_to(sizes)}
                    self.assertEqual(taken_apart(kinds), parts)
                    self.assertEqual(put_together(parts), kinds)

    def test_numbers_refused(self):
        for call in (kinds_at, unsplittable_at):
            self.not_counts(lambda value: call(TWINS, (1, 1), value), 2, 100)
            self.refuses(InvalidPlan, call, None, None, 1)
            self.refuses(InvalidSizes, call, TWINS, (7, 1), 1)
            self.refuses(InvalidCount, call, Plan.twins(9), (6, 6), 101, value=101)
        self.refuses(InvalidSizes, unsplittable_at, TWINS, (0, 0), 1)


class Ones(Case):

    def test_sets_of_arrows(self):
        for plan in list(some_plans(3, 25)) + [TWINS, THRICE, STAR, BENT, RING, POINT, BARE, APART, FULL, BOTH_WAYS, CHAIN, Plan.twins(9), Plan(6, ())]:
            told = []
            for many in range(len(plan.arrows) + 1):
                for lot in itertools.combinations(range(len(plan.arrows)), many):
                    met = {0}
                    for _ in range(plan.size):
                        for at in lot:
                            if met & set(plan.arrows[at]):
                                met |= set(plan.arrows[at])
                    if len(met) == plan.size:
                        told.append(lot)
            self.same(joining_sets(plan), tuple(sorted(told)))
            total = Poly(())
            for lot in told:
                total = total.plus(Poly((-1, 1)).raised(len(lot) - plan.size + 1))
            self.assertEqual(joining_poly(plan), total)
            self.assertEqual(joining_poly(plan), firm_poly(plan, (1,) * plan.size))

    def test_edges(self):
        self.assertEqual((joining_sets(POINT), joining_poly(POINT)), (((),), Poly((1,))))
        self.assertEqual((joining_sets(BARE), joining_poly(BARE)), ((), Poly(())))
        self.assertEqual(joining_sets(TWINS), ((0,), (0, 1), (1,)))
        self.assertEqual(len(joining_sets(Plan.twins(9))), 511)
        for call in (joining_poly, joining_sets):
            self.all_refused(InvalidPlan, call, NO_PLANS)


class Lots(Case):

    def some_parts(self, source, bound, most):
        return {row: source.randint(-most, most) for row in rows_to(bound)}

    def together(self, bound, parts):
        """The product of all 1 / (1 - X ** e), by one factor after the other."""
        rows = all_rows(*bound)
        lots = {row: int(not any(row)) for row in rows}
        for part, many in parts.items():
            for _ in range(abs(many)):
                for row in rows if many > 0 else rows[::-1]:
                    less = lesser(row, part)
                    if min(less) >= 0:
                        lots[row] += lots[less] * (1 if many > 0 else -1)
        return lots

    def test_there_and_back(self):
        source = random.Random(4)
        for bound in ((1,), (6,), (2, 3), (1, 1, 1), (0, 4), (2, 1, 0, 2), (1, 1, 1, 1, 1, 1), (6, 6)):
            for most in (1, 3, 9):
                parts = self.some_parts(source, bound, most)
                kinds = put_together(parts)
                self.assertEqual(kinds, self.together(bound, parts))
                self.assertEqual(list(kinds), all_rows(*bound))
                self.assertEqual(taken_apart(kinds), parts)
                self.assertEqual(list(taken_apart(kinds)), rows_to(bound))
                turned = dict(reversed(list(parts.items())))
                self.assertEqual(list(put_together(turned).items()), list(kinds.items()))
                self.assertEqual(list(turned), rows_to(bound)[::-1])

    def test_any_integers_are_taken_apart(self):
        source = random.Random(5)
        for bound in ((6,), (3, 2), (2, 2, 2)):
            kinds = {row: source.randint(-50, 50) for row in all_rows(*bound)}
            kinds[(0,) * len(bound)] = 1
            self.assertEqual(put_together(taken_apart(kinds)), kinds)

    def test_digits(self):
        half = 10 ** 30
        self.assertEqual(put_together({(1,): SIXTY}), {(0,): 1, (1,): SIXTY})
        self.assertEqual(taken_apart({(0,): 1, (1,): -SIXTY}), {(1,): -SIXTY})
        self.refuses(TooMany, put_together, {(1,): half * 2, (2,): 0}, limit=60)
        self.assertEqual(put_together({(1,): half, (2,): 0})[(2,)], half * (half + 1) // 2)
        self.refuses(TooMany, put_together, {(1,): SIXTY, (2,): SIXTY}, limit=60)
        self.refuses(TooMany, taken_apart, {(0,): 1, (1,): half * 2, (2,): 0}, limit=60)
        self.refuses(TooMany, taken_apart, {(0,): 1, (1,): 0, (2,): SIXTY, (3,): 0, (4,): 0}, limit=60)
        great = {row: SIXTY for row in rows_to((6, 6, 6))}
        self.refuses(TooMany, put_together, great, limit=60)
        great[(0, 0, 0)] = 1
        self.refuses(TooMany, taken_apart, great, limit=60)

    def test_rows_bound(self):
        for bound in ((6, 6, 6), (4, 4, 3, 3), (1, 1, 1, 1, 4, 4)):
            parts = {row: 0 for row in rows_to(bound)}
            kinds = dict(parts)
            kinds[(0,) * len(bound)] = 1
            self.assertEqual((put_together(parts), taken_apart(kinds)), (kinds, parts))
        for bound in ((6, 6, 6, 1), (4, 4, 4, 3)):
            parts = {row: 0 for row in rows_to(bound)}
            self.refuses(InvalidSizes, put_together, parts)
            parts[(0,) * 4] = 1
            self.refuses(InvalidSizes, taken_apart, parts)

    def test_wrong_dicts(self):
        shared = [value for value in OTHERS if not isinstance(value, dict)] + [
            {}, {1: 1}, {(0,): 1}, {(0, 0): 1}, {(): 1}, {(7,): 1}, {"1": 1}, {None: 1}, {(-1,): 0}, {((1,),): 1}, {(1, 1, 1, 1, 1, 1, 1): 1}, 1, [((1,), 2)]]
        right = {(0, 0): 1, (0, 1): 2, (1, 0): 3, (1, 1): 4}
        taken_apart(right)
        for key in right:
            less = {row: many for row, many in right.items() if row != key}
            shared.append({row: many for row, many in less.items() if any(row)} if any(key) else {(0, 0): 2})
            self.refuses(InvalidSizes, taken_apart, less)
            for wrong in (True, None, "1", 1 + SIXTY, (1,), -SIXTY_ONE):
                self.refuses(InvalidSizes, taken_apart, {**right, key: wrong})
                if any(key):
                    self.refuses(InvalidSizes, put_together, {row: wrong if row == key else many for row, many in right.items() if any(row)})
        for further in ((2, 0), (0, 2), (2, 2), (1, 1, 0), (1,), "1", 5, (True, True, True)):
            self.refuses(InvalidSizes, taken_apart, {**right, further: 1})
            self.refuses(InvalidSizes, put_together, {**{row: many for row, many in right.items() if any(row)}, further: 1})
        for number in (0, 2, -1):
            self.refuses(InvalidSizes, taken_apart, {**right, (0, 0): number})
        self.refuses(InvalidSizes, put_together, right)
        for key in ((0, 1), (1, 0), (1, 1)):
            self.refuses(InvalidSizes, put_together, {row: many for row, many in right.items() if row != key})
        self.refuses(InvalidSizes, taken_apart, {(False,): 1, (True,): 2})
        self.refuses(InvalidSizes, put_together, {(True,): 2})
        for value in shared:
            self.refuses(InvalidSizes, taken_apart, value)
            self.refuses(InvalidSizes, put_together, value)


if __name__ == "__main__":
    unittest.main()
