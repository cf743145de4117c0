"""[0.8] to [0.18]: the main statements, with all stages together."""

import itertools
import unittest

from arrowsizes.canon.canons import canonical_parts
from arrowsizes.chart.plans import Plan, bad_row, null_row, sort_of
from arrowsizes.counted.counts import firm_poly, joining_poly, kinds_at, unsplittable_at
from arrowsizes.fill.fillings import Filling
from arrowsizes.fixed.kinds import all_kinds, kinds_number, orbit_number, unsplittable_number
from arrowsizes.general.generals import ext_of_sizes, sits_in, subs_of
from arrowsizes.grid.tables import Table, idle_table, zero_table
from arrowsizes.joined.joins import likeness_number
from arrowsizes.line.bars import bar_rows
from arrowsizes.mirror.mirrors import finite_roots, root_sums
from arrowsizes.origin.roots import is_root, multiplicity, root_paper, roots_to
from arrowsizes.paired.pairs import are_general, pairs_number, pairs_poly
from arrowsizes.poly.polys import Poly, Quotient, power_of_q
from arrowsizes.special.specials import lines_poly, two_poly
from arrowsizes.split.splits import are_alike, field_degree, is_firm, is_unsplittable, part_sizes, parts_of
from arrowsizes.steady.weights import has_steady, mean_of, steady_share
from tests.helpers import Case, all_rows
from tests.some_fillings import BARE, BOTH_WAYS, some_fillings
from tests.test_plans import BENT, POINT, RING, STAR, THRICE, TWINS

LINE = Plan.line(2)
CHAIN = Plan.line(3)
# Plans with a prime and the greatest sizes up to which all kinds are gone through.
SMALL = ((POINT, 3, (3,)), (BARE, 2, (2, 2)), (LINE, 2, (2, 3)), (CHAIN, 2, (2, 2, 1)), (TWINS, 2, (2, 2)), (TWINS, 3, (1, 2)), (THRICE, 2, (1, 2)), (BENT, 2, (1, 2, 1)), (RING, 2, (1, 1, 2)), (BOTH_WAYS, 2, (2, 1)), (STAR, 2, (2, 1, 1, 1)))
ROOTS = ((LINE, (3, 3)), (CHAIN, (2, 2, 2)), (TWINS, (3, 3)), (THRICE, (3, 2)), (BENT, (2, 2, 1)), (RING, (2, 1, 1)), (BOTH_WAYS, (2, 2)), (STAR, (2, 1, 1, 1)), (BARE, (2, 2)), (Plan(4, ((0, 1), (0, 1), (2, 3))), (1, 1, 1, 1)))


def turned(plan):
    """The plan with each other arrow turned round."""
    return Plan(plan.size, tuple([arrow[::-1] if at % 2 == 0 else arrow for at, arrow in enumerate(plan.arrows)]))


class OnePolynomial(Case):

    def test_numbers_of_kinds(self):
        """[0.11], [0.12]: kinds, unsplittable and firm ones, listed."""
        for plan, prime, most in SMALL:
            for sizes in all_rows(*most):
                kinds = list(all_kinds(plan, sizes, prime))
                self.assertEqual(kinds_at(plan, sizes, prime), len(kinds))
                if any(sizes):
                    self.assertEqual(unsplittable_at(plan, sizes, prime), len([filling for filling in kinds if is_unsplittable(filling)]))
                    self.assertEqual(firm_poly(plan, sizes).at(prime), len([filling for filling in kinds if is_firm(filling)]))

    def test_turned_arrows(self):
        for plan, most in ROOTS:
            for sizes in all_rows(*most):
                if any(sizes):
                    self.assertEqual(firm_poly(turned(plan), sizes), firm_poly(plan, sizes))

    def test_coefficients(self):
        for plan, most in ROOTS:
            for sizes in all_rows(*most):
                if any(sizes):
                    self.assertTrue(all([number >= 0 for number in firm_poly(plan, sizes).coefficients]))

    def test_fillings_by_likenesses(self):
        """All fillings, by kinds: each has so many alike ones as turns, divided by its likenesses to itself."""
        for plan, prime, most in SMALL:
            total = 0
            for filling in all_kinds(plan, most, prime):
                if likeness_number(filling) < 3000:
                    self.assertEqual(orbit_number(filling) * likeness_number(filling), self.turns(prime, most))
                total += self.turns(prime, most) // likeness_number(filling)
            self.assertEqual(total, prime ** sum([most[i] * most[j] for i, j in plan.arrows]))

    def turns(self, prime, sizes):
        found = 1
        for size in sizes:
            for at in range(size):
                found *= prime ** size - prime ** at
        return found

    def test_sums_of_parts(self):
        """[0.11]: a filling is alike to the sum of its parts, in any sequence."""
        for filling in some_fillings(1, 40, total=7):
            total = Filling.zero(filling.plan, filling.prime, (0,) * filling.plan.size)
            for part in parts_of(filling)[::-1]:
                total = total.summed(part)
            self.assertIs(are_alike(total, filling), True)
            self.assertEqual(part_sizes(total), part_sizes(filling))


class Roads(Case):

    def test_fixed_fillings(self):
        for plan, prime, most in SMALL:
            if prime == 2:
                self.assertEqual(kinds_number(plan, most, prime), kinds_at(plan, most, prime))
                self.assertEqual(unsplittable_number(plan, most, prime), unsplittable_at(plan, most, prime))

    def test_pairs(self):
        for plan, prime, most in SMALL:
            self.assertEqual(pairs_number(plan, prime, most, (0,) * plan.size), pairs_poly(plan, most).at(prime))
            for numbers in itertools.product(range(prime), repeat=plan.size):
                if are_general(plan, prime, most, numbers):
                    told = Quotient(firm_poly(plan, most)).times(power_of_q(1 - plan.norm(most))).over(Poly((-1, 1))).at(prime)
                    self.assertEqual(pairs_number(plan, prime, most, numbers) * told[1], told[0] * self.turns(prime, most))

    turns = OnePolynomial.turns

    def test_sets_of_arrows(self):
        for plan in (TWINS, THRICE, BENT, RING, BOTH_WAYS, STAR, BARE, POINT, Plan.star(5), Plan(4, ((0, 1), (1, 2), (2, 3), (3, 0), (0, 2)))):
            self.assertEqual(joining_poly(plan), firm_poly(plan, (1,) * plan.size))

    def test_special_plans(self):
        for sizes in all_rows(3, 3):
            if any(sizes):
                self.assertEqual(two_poly(sizes), firm_poly(TWINS, sizes))
        for arms in range(1, 6):
            self.assertEqual(lines_poly(arms), firm_poly(Plan.star(arms), (2,) + (1,) * arms))
        for sizes in ((2, 2), (1, 2, 1), (1, 1, 1, 1)):
            self.assertEqual(kinds_at(Plan.line(len(sizes)), sizes, 5), len(list(bar_rows(sizes))))


class Roots(Case):

    def test_roots(self):
        """[0.14]."""
        met = {"real": 0, "imaginary": 0, "none": 0}
        for plan, most in ROOTS:
            for sizes in all_rows(*most):
                if not any(sizes):
                    continue
                found, kind = firm_poly(plan, sizes), root_paper(plan, sizes)[0]
                self.assertIs(found == Poly(()), not is_root(plan, sizes))
                self.assertIs(found == Poly((1,)), kind == "real")
                self.assertEqual(found.at(0), multiplicity(plan, sizes))
                if kind == "imaginary":
                    self.assertEqual((found.degree, found.coefficients[-1]), (1 - plan.norm(sizes), 1))
                met[kind if kind in met else "none"] += 1
        self.assertGreater(min(met.values()), 10)

    def test_finite_sorts(self):
        """[0.15]."""
        for plan in (POINT, LINE, CHAIN, STAR, Plan.line(5), Plan(4, ((0, 1), (2, 1), (1, 3)))):
            self.assertEqual((sort_of(plan), bad_row(plan), null_row(plan)), ("finite", None, None))
            roots = finite_roots(plan)
            self.assertEqual(roots, roots_to(plan, (2,) * plan.size))
            for root in roots:
                self.assertEqual(unsplittable_at(plan, root, 7), 1)
            self.assertEqual(kinds_at(plan, (1,) * plan.size, 3), root_sums(plan, (1,) * plan.size))
        for plan in (TWINS, THRICE, BENT, RING, BOTH_WAYS):
            row = bad_row(plan)
            self.assertLessEqual(plan.norm(row), 0)
            self.assertGreater(firm_poly(plan, row).degree, 0)


class General(Case):

    def test_sitting(self):
        """[0.16]."""
        for plan, most in ((TWINS, (3, 3)), (THRICE, (2, 3)), (CHAIN, (2, 2, 1)), (BENT, (1, 2, 1)), (STAR, (2, 1, 1, 1))):
            for whole in all_rows(*most):
                for one in all_rows(*whole):
                    self.assertIs(sits_in(plan, one, whole), ext_of_sizes(plan, one, tuple([a - b for a, b in zip(whole, one)])) == 0)
                parts = canonical_parts(plan, whole)
                self.assertEqual(tuple([sum([row[at] * many for row, many in parts.items()]) for at in range(plan.size)]), whole)

    def test_weights(self):
        """[0.17]."""
        for plan, most in ((TWINS, (2, 3)), (THRICE, (2, 2)), (CHAIN, (2, 1, 2)), (BENT, (1, 2, 1))):
            for weight in ((1,) + (0,) * (plan.size - 1), (0,) * (plan.size - 1) + (1,), tuple(range(plan.size)), (2, -5, 3)[:plan.size]):
                for whole in all_rows(*most):
                    if any(whole):
                        top, bottom = mean_of(plan, weight, whole)
                        means = [mean_of(plan, weight, row) for row in subs_of(plan, whole) if any(row)]
                        told = not [pair for pair in means if pair[0] * bottom > top * pair[1]]
                        self.assertIs(has_steady(plan, weight, whole), told)
                        self.assertIs(steady_share(plan, weight, whole) == Quotient(0), not told)


class NotTrue(Case):
    """[0.18]."""

    def test_larger_fields(self):
        """Unsplittable, but not over a larger field: it is not firm."""
        filling = Filling(TWINS, 2, (2, 2), (idle_table(2, 2), Table(2, 2, 2, ((0, 1), (1, 1)))))
        self.assertEqual((is_unsplittable(filling), is_firm(filling), field_degree(filling)), (True, False, 2))

    def test_ranks(self):
        one, other = [Filling(TWINS, 3, (1, 1), (idle_table(3, 1), Table(3, 1, 1, ((number,),)))) for number in (1, 2)]
        self.assertEqual([table.rank for table in one.tables], [table.rank for table in other.tables])
        self.assertIs(are_alike(one, other), False)

    def test_both_ends(self):
        row = firm_poly(THRICE, (2, 2)).coefficients
        self.assertNotEqual(row, row[::-1])

    def test_norms(self):
        met = [(plan, sizes) for plan, most in ROOTS for sizes in all_rows(*most) if any(sizes) and plan.norm(sizes) == 1 and not is_root(plan, sizes)]
        self.assertTrue(met)
        for plan, sizes in met:
            self.assertEqual(firm_poly(plan, sizes), Poly(()))

    def test_forms(self):
        for plan, one, whole in ((LINE, (2, 1), (3, 3)), (CHAIN, (1, 0, 1), (1, 1, 2)), (CHAIN, (1, 0, 1), (2, 2, 2))):
            self.assertGreaterEqual(plan.form(one, tuple([a - b for a, b in zip(whole, one)])), 0)
            self.assertIs(sits_in(plan, one, whole), False)

    def test_zero_fillings(self):
        """A filling whose sizes are all 0 is not unsplittable."""
        none = Filling(TWINS, 2, (0, 0), (zero_table(2, 0, 0),) * 2)
        self.assertEqual((is_unsplittable(none), parts_of(none)), (False, ()))


if __name__ == "__main__":
    unittest.main()
