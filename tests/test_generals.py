"""[0.16], [13.1] to [13.7] and what stands there: what sits in general fillings."""

import itertools
import random
import unittest

from arrowsizes.chart.plans import Plan
from arrowsizes.errors import InvalidOperation, InvalidPlan, InvalidSizes, Refused, TooMany
from arrowsizes.fill.fillings import ext_number, hom_number, is_sub
from arrowsizes.general import generals as module
from arrowsizes.general.generals import (
    bar_of, best_sub, ext_of_sizes, hom_of_sizes, is_bar, is_best_sub, is_schur, schur_roots, sits_in, subs_of)
from arrowsizes.grid.tables import spaces
from arrowsizes.mirror.mirrors import finite_roots
from arrowsizes.origin.roots import is_root, roots_to
from tests.helpers import Case, NO_TUPLES, OTHERS, all_rows
from tests.some_fillings import BARE, BOTH_WAYS, all_fillings
from tests.test_fillings import NO_SIZES
from tests.test_plans import BENT, NO_PLANS, POINT, RING, STAR, THRICE, TWINS

FOUR = Plan(5, ((1, 0), (2, 0), (3, 0), (4, 0)))
LINE = Plan.line(3)
WIDE = Plan(6, ((0, 1), (1, 2), (0, 2), (0, 2), (3, 2), (5, 3)))
# Plans without rings, and the greatest sizes up to which all rows are gone through.
GENERAL = (
    (POINT, (6,)), (BARE, (2, 2)), (Plan.line(2), (3, 4)), (TWINS, (3, 3)), (THRICE, (4, 3)), (THRICE.opposite(), (3, 3)), (Plan.twins(5), (2, 4)), (LINE, (2, 2, 2)),
    (BENT, (2, 2, 1)), (STAR, (3, 1, 1, 1)), (STAR.opposite(), (2, 1, 1, 1)), (FOUR, (2, 1, 1, 1, 1)), (WIDE, (1, 1, 1, 1, 1, 1)), (Plan(3, ((0, 1), (1, 2), (1, 2))), (2, 2, 1)))
# What is small enough for all fillings over a field.
SMALL = ((Plan.line(2), 2, (2, 3)), (LINE, 2, (2, 2, 1)), (LINE.opposite(), 2, (1, 2, 2)), (STAR, 2, (2, 1, 1, 1)), (Plan(3, ((0, 1), (2, 1))), 2, (2, 2, 1)), (BARE, 3, (2, 1)), (POINT, 5, (2,)))
NAMES_OF_TWO = (sits_in, ext_of_sizes, hom_of_sizes, best_sub, bar_of)


def cases():
    """Triples of a plan without rings, a row e below d, and d."""
    for plan, most in GENERAL:
        for whole in all_rows(*most):
            for one in all_rows(*whole):
                yield plan, one, whole


def less(whole, one):
    return tuple([a - b for a, b in zip(whole, one)])


def ext_by_quotients(plan, one, other):
    return max([-plan.form(one, less(other, row)) for row in subs_of(plan, other)])


class Recursion:
    """The recursion of [13.3], with the ext numbers of all pairs in a dict."""

    def __init__(self, plan):
        self.plan, self.known = plan, {}

    def ext(self, one, other):
        if (one, other) not in self.known:
            self.known[one, other] = max([-self.plan.form(row, other) for row in all_rows(*one) if self.sits(row, one)])
        return self.known[one, other]

    def sits(self, one, whole):
        return one == whole or not any(one) or self.ext(one, less(whole, one)) == 0


class Sitting(Case):

    def test_constants(self):
        self.assertEqual((module.MAX_GENERAL, module.MAX_SUBS), (14, 300))

    def test_by_recursion(self):
        known = {}
        for plan, one, whole in cases():
            recursion = known.setdefault(str(plan), Recursion(plan))
            self.assertIs(sits_in(plan, one, whole), recursion.sits(one, whole))
        self.assertGreater(len(known), 10)

    def test_subs_are_what_sits(self):
        for plan, most in GENERAL:
            for whole in all_rows(*most):
                found = subs_of(plan, whole)
                self.assertIs(type(found), tuple)
                self.assertEqual(found, tuple([row for row in all_rows(*whole) if sits_in(plan, row, whole)]))
                self.assertEqual((found[0], found[-1]), ((0,) * plan.size, whole))

    def test_by_all_fillings(self):
        """Over a small field, for plans of the finite sort, where all fillings are there over each field."""
        for plan, prime, whole in SMALL:
            fillings = all_fillings(plan, prime, whole)
            for one in all_rows(*whole):
                options = [list(spaces(prime, size, many)) for size, many in zip(whole, one)]
                told = all([any([is_sub(filling, lot) for lot in itertools.product(*options)]) for filling in fillings])
                self.assertIs(sits_in(plan, one, whole), told)

    def test_general_fillings_without_subs(self):
        """What does not sit is missing in some filling over a small field."""
        met = 0
        for plan, prime, whole in ((TWINS, 2, (2, 2)), (TWINS, 3, (2, 1)), (THRICE, 2, (2, 1)), (BENT, 2, (1, 2, 1)), (THRICE, 3, (1, 2)), (THRICE, 2, (2, 2))):
            fillings = all_fillings(plan, prime, whole)
            for one in all_rows(*whole):
                if not sits_in(plan, one, whole):
                    met += 1
                    options = [list(spaces(prime, size, many)) for size, many in zip(whole, one)]
                    self.assertTrue([filling for filling in fillings if not any([is_sub(filling, lot) for lot in itertools.product(*options)])])
        self.assertGreater(met, 15)

    def test_opposite(self):
        for plan, one, whole in cases():
            self.assertIs(sits_in(plan.opposite(), less(whole, one), whole), sits_in(plan, one, whole))

    def test_steps(self):
        """What sits in what sits sits."""
        for plan, most in GENERAL:
            subs = {row: subs_of(plan, row) for row in all_rows(*most)}
            for whole, inner in subs.items():
                for row in inner:
                    self.assertLessEqual(set(subs[row]), set(inner))

    def test_forms(self):
        met = 0
        for plan, one, whole in cases():
            form = plan.form(one, less(whole, one))
            if sits_in(plan, one, whole):
                self.assertGreaterEqual(form, 0)
            else:
                met += form >= 0
        # Rows with a form of at least 0 that do not sit.
        self.assertGreater(met, 3)

    def test_what_is_not_below(self):
        for plan, one, whole in ((TWINS, (2, 0), (1, 1)), (TWINS, (0, 3), (6, 2)), (BARE, (1, 0), (0, 6)), (POINT, (1,), (0,))):
            self.assertIs(sits_in(plan, one, whole), False)
            self.refuses(InvalidOperation, bar_of, plan, one, whole)
            for value in (None, one, (0,) * plan.size):
                self.refuses(InvalidOperation, is_bar, plan, one, whole, value)

    def test_edges(self):
        self.assertEqual(subs_of(POINT, (3,)), ((0,), (1,), (2,), (3,)))
        self.assertEqual(subs_of(POINT, (0,)), ((0,),))
        self.assertEqual(subs_of(BARE, (1, 2)), tuple(all_rows(1, 2)))
        six = Plan.line(6)
        self.assertEqual(subs_of(six, (1,) * 6), tuple(sorted([(0,) * (6 - many) + (1,) * many for many in range(7)])))
        self.assertEqual(len(subs_of(Plan(6, ()), (2, 2, 2, 2, 1, 0))), 162)

    def test_not_true_of_sums(self):
        """Twice a row that sits can be below and not sit."""
        for plan, one, whole in ((THRICE, (1, 0), (4, 1)), (BENT, (0, 1, 0), (0, 2, 1)), (Plan(3, ((0, 1), (1, 2), (1, 2))), (1, 0, 0), (2, 1, 0))):
            self.assertIs(sits_in(plan, one, whole), True)
            self.assertIs(sits_in(plan, tuple([2 * size for size in one]), whole), False)


class Bars(Case):

    def test_bars(self):
        met = {True: 0, False: 0}
        for plan, one, whole in cases():
            found, sits = bar_of(plan, one, whole), sits_in(plan, one, whole)
            self.assertIs(found is None, sits)
            if sum(whole) > 4:
                continue
            inner = subs_of(plan, one)
            for row in all_rows(*one) + [whole]:
                told = row in inner and plan.form(row, less(whole, one)) < 0
                met[told] += 1
                self.assertIs(is_bar(plan, one, whole, row), told)
            if found is not None:
                self.assertIs(is_bar(plan, one, whole, found), True)
        self.assertGreater(min(met.values()), 100)

    def test_wrong_values(self):
        self.assertIs(is_bar(THRICE, (1, 1), (2, 2), (1, 1)), True)
        for value in NO_TUPLES + OTHERS + ((True, True), (1, True), [1, 1], (1, 1, 0), (1,), (1, -1), (7, 7), (1, "1"), (0, 0), (0, 1), (1, 0), ((1, 1),)):
            self.assertIs(is_bar(THRICE, (1, 1), (2, 2), value), False)
            self.assertIs(is_bar(THRICE, (1, 2), (2, 2), value), False)


class Least(Case):

    def test_both_roads(self):
        source = random.Random(1)
        for plan, most in GENERAL:
            for _ in range(150):
                one, other = [tuple([source.randint(0, size) for size in most]) for _ in range(2)]
                ext = ext_of_sizes(plan, one, other)
                self.same(ext, ext_by_quotients(plan, one, other))
                self.same(hom_of_sizes(plan, one, other), ext + plan.form(one, other))
                self.assertGreaterEqual(min(ext, ext + plan.form(one, other)), 0)
                self.assertEqual(ext, ext_of_sizes(plan.opposite(), other, one))

    def test_by_all_fillings(self):
        for plan, prime, one, other in (
                (LINE, 2, (1, 2, 1), (1, 1, 2)), (STAR, 2, (1, 1, 1, 0), (1, 1, 1, 1)), (Plan.line(2), 3, (1, 2), (2, 1)), (TWINS, 2, (1, 1), (1, 1)), (TWINS, 2, (2, 1), (1, 2)), (TWINS, 2, (1, 2), (2, 1)),
                (TWINS, 3, (1, 1), (1, 2)), (THRICE, 2, (1, 1), (1, 1)), (THRICE, 2, (1, 2), (1, 1)), (THRICE, 2, (2, 1), (1, 1)), (BENT, 2, (1, 1, 1), (1, 2, 1)), (BARE, 2, (2, 1), (1, 3)), (Plan.twins(4), 2, (1, 1), (1, 1)),
                (BENT, 3, (1, 1, 1), (1, 1, 1)), (TWINS, 5, (1, 1), (1, 1))):
            for a, b in ((one, other), (other, one)):
                pairs = itertools.product(all_fillings(plan, prime, a), all_fillings(plan, prime, b))
                numbers = [(ext_number(x, y), hom_number(x, y)) for x, y in pairs]
                self.assertEqual(min(numbers), (ext_of_sizes(plan, a, b), hom_of_sizes(plan, a, b)))

    def test_sizes_beyond_one_row(self):
        """Both rows are bounded each by itself, not their sum."""
        self.same(ext_of_sizes(TWINS, (6, 6), (6, 6)), 0)
        self.same(hom_of_sizes(Plan(2, ()), (6, 6), (6, 6)), 72)
        self.same(ext_of_sizes(Plan.twins(9), (6, 0), (0, 6)), 324)

    def test_best_subs(self):
        source = random.Random(2)
        for plan, most in GENERAL:
            for _ in range(40):
                one, other = [tuple([source.randint(0, size) for size in most]) for _ in range(2)]
                ext, inner = ext_of_sizes(plan, one, other), subs_of(plan, one)
                self.assertIs(is_best_sub(plan, one, other, best_sub(plan, one, other)), True)
                for row in all_rows(*one):
                    self.assertIs(is_best_sub(plan, one, other, row), row in inner and -plan.form(row, other) == ext)

    def test_wrong_best_subs(self):
        self.assertEqual([row for row in all_rows(1, 1) if is_best_sub(THRICE, (1, 1), (1, 1), row)], [(1, 1)])
        for value in NO_TUPLES + OTHERS + ((True, True), [1, 1], (1, 1, 1), (2, 1), (1, 7), (1, None), (0, 0), ((1, 1),)):
            self.assertIs(is_best_sub(THRICE, (1, 1), (1, 1), value), False)
        self.assertIs(is_best_sub(TWINS, (1, 1), (0, 0), (0, 0)), True)
        self.assertIs(is_best_sub(TWINS, (1, 1), (0, 0), (False, False)), False)


class Schur(Case):

    def test_by_least_endomorphisms(self):
        """By fillings with multiples of the idle endomorphism alone."""
        for plan, prime, most in ((LINE, 2, (2, 2, 2)), (STAR, 2, (2, 1, 1, 1)), (TWINS, 2, (2, 2)), (TWINS, 3, (1, 2)), (THRICE, 2, (2, 2)), (BENT, 2, (1, 2, 1)), (BARE, 2, (2, 2)), (POINT, 3, (2,))):
            for sizes in all_rows(*most):
                if any(sizes):
                    told = min([hom_number(filling, filling) for filling in all_fillings(plan, prime, sizes)]) == 1
                    self.assertIs(is_schur(plan, sizes), told)

    def test_roots(self):
        met = 0
        for plan, most in GENERAL:
            found = schur_roots(plan, most)
            self.assertIs(type(found), tuple)
            self.assertEqual(found, tuple([row for row in all_rows(*most) if is_schur(plan, row)]))
            for row in found:
                self.assertIs(is_root(plan, row), True)
                self.assertLessEqual(plan.norm(row), 1)
                met += plan.norm(row) < 0
            # Not true: each root is a Schur root.
            if plan == TWINS:
                self.assertIs(is_root(plan, (2, 2)) and not is_schur(plan, (2, 2)), True)
        self.assertGreater(met, 10)

    def test_finite_plans(self):
        """Here each root is one."""
        for plan in (LINE, STAR, Plan.line(5), Plan(4, ((0, 1), (2, 1), (3, 1)))):
            self.assertEqual(schur_roots(plan, (2,) * plan.size), finite_roots(plan))

    def test_norms(self):
        for plan, sizes, norm in ((TWINS, (1, 2), 1), (TWINS, (1, 1), 0), (FOUR, (2, 1, 1, 1, 1), 0), (THRICE, (2, 2), -4), (THRICE, (1, 1), -1), (THRICE, (3, 4), -11), (WIDE, (1, 1, 1, 1, 0, 1), -1)):
            self.assertEqual((is_schur(plan, sizes), plan.norm(sizes)), (True, norm))
        for plan, sizes in ((TWINS, (2, 2)), (BENT, (2, 2, 2)), (POINT, (2,)), (BARE, (1, 1)), (LINE, (1, 0, 1)), (THRICE, (1, 4))):
            self.assertIs(is_schur(plan, sizes), False)

    def test_zeros(self):
        for plan in (POINT, TWINS, WIDE):
            zeros = (0,) * plan.size
            self.assertIs(is_schur(plan, zeros), False)
            self.assertEqual((schur_roots(plan, zeros), subs_of(plan, zeros)), ((), (zeros,)))
            self.assertEqual((ext_of_sizes(plan, zeros, zeros), hom_of_sizes(plan, zeros, zeros)), (0, 0))
            self.assertEqual((best_sub(plan, zeros, zeros), bar_of(plan, zeros, zeros)), (zeros, None))

    def test_not_true_of_pairs(self):
        """Two Schur roots with neither hom nor ext 0."""
        plan, one, other = Plan(4, ((0, 1), (0, 1), (2, 1), (2, 3), (2, 3))), (0, 1, 2, 1), (1, 2, 1, 0)
        self.assertEqual((is_schur(plan, one), is_schur(plan, other)), (True, True))
        self.assertGreater(min(hom_of_sizes(plan, one, other), ext_of_sizes(plan, one, other)), 0)


class Errors(Case):

    def calls_of_one(self):
        return (subs_of, is_schur, schur_roots)

    def calls_of_two(self):
        return NAMES_OF_TWO + (lambda plan, one, other: is_bar(plan, one, other, None), lambda plan, one, other: is_best_sub(plan, one, other, None))

    def test_kinds_of_values(self):
        for call in self.calls_of_one():
            self.all_refused(InvalidPlan, lambda value: call(value, (1, 1)), NO_PLANS)
            self.all_refused(InvalidSizes, lambda value: call(TWINS, value), NO_SIZES)
            self.refuses(InvalidPlan, call, None, None)
        for call in self.calls_of_two():
            self.all_refused(InvalidPlan, lambda value: call(value, (1, 1), (1, 1)), NO_PLANS)
            self.all_refused(InvalidSizes, lambda value: call(TWINS, value, (1, 1)), NO_SIZES)
            self.all_refused(InvalidSizes, lambda value: call(TWINS, (1, 1), value), NO_SIZES)
            self.refuses(InvalidPlan, call, None, None, None)

    def test_rings(self):
        for plan in (RING, BOTH_WAYS, Plan(4, ((0, 1), (1, 2), (2, 3), (3, 1)))):
            few, many = (1,) * plan.size, (6,) * plan.size
            for call in self.calls_of_one():
                self.refuses(Refused, call, plan, few, reason=("ring",))
                self.refuses(Refused, call, plan, many, reason=("ring",))
                self.refuses(Refused, call, plan, (0,) * plan.size, reason=("ring",))
                self.refuses(InvalidSizes, call, plan, (7,) * plan.size)
            for call in self.calls_of_two():
                self.refuses(Refused, call, plan, few, few, reason=("ring",))
                self.refuses(Refused, call, plan, many, few, reason=("ring",))
                self.refuses(InvalidSizes, call, plan, many, (7,) * plan.size)

    def test_bounds(self):
        three, four, six = Plan.line(3), Plan.line(4), Plan.line(6)
        for call in self.calls_of_one():
            call(three, (5, 5, 4))
            call(four, (4, 4, 3, 2))
            self.refuses(TooMany, call, three, (5, 5, 5), limit=14)
            self.refuses(TooMany, call, six, (6,) * 6, limit=14)
            self.refuses(TooMany, call, six, (2, 2, 2, 2, 1, 1), limit=300)
            self.refuses(TooMany, call, four, (4, 4, 4, 2), limit=300)
        for call in (sits_in, ext_of_sizes, hom_of_sizes, best_sub):
            call(three, (5, 5, 4), (5, 5, 4))
            call(four, (4, 4, 3, 2), (1, 1, 1, 1))
            call(four, (1, 1, 1, 1), (4, 4, 3, 2))
        for call in self.calls_of_two():
            self.refuses(TooMany, call, three, (5, 5, 5), (0, 0, 0), limit=14)
            self.refuses(TooMany, call, three, (0, 0, 0), (5, 5, 5), limit=14)
            self.refuses(TooMany, call, six, (2, 2, 2, 2, 1, 1), (0,) * 6, limit=300)
            self.refuses(TooMany, call, six, (0,) * 6, (2, 2, 2, 2, 1, 1), limit=300)
            self.refuses(TooMany, call, six, (2, 2, 2, 2, 1, 1), (6, 6, 3, 0, 0, 0), limit=14)
        bar_of(three, (2, 5, 4), (5, 5, 4))
        bar_of(four, (1, 1, 1, 1), (4, 4, 3, 2))
        self.refuses(TooMany, bar_of, three, (6, 0, 0), (5, 5, 5), limit=14)


if __name__ == "__main__":
    unittest.main()
