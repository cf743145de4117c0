"""[6.1] to [6.6] and what stands there, and [0.14]: roots, multiplicities, signed sizes."""

import fractions
import itertools
import math
import random
import unittest

from arrowsizes.chart.plans import Plan, are_joined, is_sizes, null_row, sort_of
from arrowsizes.errors import InvalidOperation, InvalidPlan, InvalidSizes, TooMany
from arrowsizes.origin import roots as module
from arrowsizes.origin.roots import (
    is_root, is_root_paper, multiplicities, multiplicity, root_paper, roots_to, signed_sizes, sum_number)
from tests.helpers import Case, NO_TUPLES, OTHERS, SIXTY_ONE, all_rows
from tests.test_plans import APART, BENT, FULL, NO_PLANS, POINT, RING, SOME, STAR, THRICE, TWINS

CHAIN = Plan.line(3)
TWO_TWINS = Plan(4, ((0, 1), (0, 1), (2, 3), (2, 3)))
BOTH_WAYS = Plan(2, ((0, 1), (1, 0)))
PLANS = SOME + (CHAIN, TWO_TWINS, Plan.star(4))
WITH_SIZES = (root_paper, is_root, roots_to, sum_number, multiplicity, multiplicities, signed_sizes)
FEW = (roots_to, sum_number, multiplicity, multiplicities, signed_sizes)


def unit(plan, point):
    return tuple([int(at == point) for at in range(plan.size)])


def less(row, other):
    return tuple([a - b for a, b in zip(row, other)])


def rows_to(sizes):
    """All rows up to the sizes other than 0."""
    return [row for row in all_rows(*sizes) if any(row)]


def some_sizes(plan, seed, many, most=4):
    source = random.Random(seed)
    found = [tuple([source.randint(0, most) for _ in range(plan.size)]) for _ in range(many)]
    return [sizes for sizes in found if any(sizes)]


def falling(plan, sizes):
    return [point for point in range(plan.size) if plan.match(sizes, unit(plan, point)) > 0]


def papers(plan, sizes, source):
    """A paper, found by falls at points that look random."""
    word, now = (), sizes
    while True:
        points = falling(plan, now)
        if sum(now) == 1:
            return "real", word, now.index(1)
        if not points:
            return ("imaginary" if are_joined(plan, now) else "apart"), word, now
        point = source.choice(points)
        lower = plan.reflected(now, point)
        if lower[point] < 0:
            return "below", word, point
        word, now = word + (point,), lower


def few_plans():
    """Pairs of plans and sizes with few rows below them, of all kinds."""
    told = [(TWINS, (4, 4)), (THRICE, (3, 4)), (STAR, (3, 2, 2, 2)), (BENT, (2, 3, 2)), (RING, (2, 2, 3)), (POINT, (6,)), (APART, (1, 2, 1, 1, 2, 2)),
            (FULL, (1, 1, 2, 1, 1, 1)), (BOTH_WAYS, (3, 5)), (TWO_TWINS, (2, 2, 2, 1)), (Plan(6, ()), (2, 1, 1, 1, 1, 1)), (Plan.twins(9), (3, 3)),
            (CHAIN, (3, 3, 3)), (Plan.star(4), (2, 2, 1, 1, 2)), (Plan.twins(0), (4, 4)), (Plan.line(6), (1, 2, 2, 2, 1, 1))]
    return told


class Papers(Case):

    def test_constant(self):
        self.same(module.MAX_ROWS, 400)

    def test_papers_found_are_judged(self):
        source, met = random.Random(1), {}
        for plan in PLANS:
            for sizes in some_sizes(plan, 2, 100 if plan == TWO_TWINS else 25) + [unit(plan, 0), (6,) * plan.size]:
                paper = root_paper(plan, sizes)
                self.assertIs(is_root_paper(plan, sizes, paper), True)
                self.same(root_paper(plan, sizes), paper)
                met[paper[0]] = met.get(paper[0], 0) + 1
                for _ in range(3):
                    other = papers(plan, sizes, source)
                    self.assertIs(is_root_paper(plan, sizes, other), True)
                    self.assertEqual(other[0], paper[0])
                    if paper[0] in ("imaginary", "apart"):
                        self.assertEqual(other[2], paper[2])
        self.assertEqual(sorted(met), ["apart", "below", "imaginary", "real"])
        self.assertGreater(min(met.values()), 3)

    def test_the_word_is_followed(self):
        for plan in PLANS:
            for sizes in some_sizes(plan, 3, 10):
                kind, word, end = root_paper(plan, sizes)
                now = sizes
                for point in word:
                    self.assertIn(point, falling(plan, now))
                    self.assertGreater(sum(now), 1)
                    lower = plan.reflected(now, point)
                    self.assertLess(sum(lower), sum(now))
                    now = lower
                    self.assertTrue(is_sizes(plan, now))
                if kind == "real":
                    self.assertEqual((now, plan.norm(sizes)), (unit(plan, end), 1))
                elif kind == "below":
                    self.assertLess(plan.reflected(now, end)[end], 0)
                    self.assertGreater(sum(now), 1)
                else:
                    self.assertEqual((now, falling(plan, now)), (end, []))
                    self.assertIs(are_joined(plan, now), kind == "imaginary")
                    self.assertLessEqual(plan.norm(sizes), 0)

    def test_all_small_papers(self):
        """Among all papers with few points, just those are taken that the document tells."""
        for plan, sizes in ((THRICE, (3, 1)), (TWINS, (2, 1)), (TWINS, (2, 2)), (TWINS, (3, 1)), (CHAIN, (1, 1, 0)), (CHAIN, (1, 0, 1)), (CHAIN, (0, 0, 1))):
            ends = list(range(-1, plan.size + 1)) + all_rows(*(2,) * plan.size)
            for many in range(4):
                for word in itertools.product(range(plan.size), repeat=many):
                    for kind in ("real", "imaginary", "apart", "below"):
                        for end in ends:
                            told = is_root_paper(plan, sizes, (kind, word, end))
                            self.assertIs(told, self.is_paper(plan, sizes, kind, word, end), (plan.arrows, sizes, kind, word, end))

    def is_paper(self, plan, sizes, kind, word, end):
        now = sizes
        for point in word:
            if sum(now) == 1 or point not in falling(plan, now) or min(plan.reflected(now, point)) < 0:
                return False
            now = plan.reflected(now, point)
        if kind in ("real", "below"):
            if not isinstance(end, int) or not 0 <= end < plan.size:
                return False
            if kind == "real":
                return now == unit(plan, end)
            return sum(now) > 1 and end in falling(plan, now) and min(plan.reflected(now, end)) < 0
        return now == end and not falling(plan, now) and are_joined(plan, now) is (kind == "imaginary")

    def test_edges(self):
        self.assertEqual(root_paper(POINT, (1,)), ("real", (), 0))
        self.assertEqual(root_paper(POINT, (6,)), ("below", (), 0))
        self.assertEqual(root_paper(TWO_TWINS, (1, 1, 1, 1)), ("apart", (), (1, 1, 1, 1)))
        self.assertEqual(root_paper(RING, (6, 6, 6)), ("imaginary", (), (6, 6, 6)))
        self.assertEqual(root_paper(BOTH_WAYS, (1, 2)), ("real", (1,), 0))
        self.assertEqual(root_paper(CHAIN, (1, 0, 1))[0], "below")
        self.assertIs(is_root_paper(TWINS, (0, 1), ("below", (), 1)), False)
        self.assertIs(is_root_paper(TWINS, (0, 1), ("real", (1,), 1)), False)
        self.assertIs(is_root_paper(THRICE, (4, 1), ("below", (0,), 0)), False)

    def test_wrong_papers(self):
        right = ("real", (0,), 1)
        self.assertIs(is_root_paper(THRICE, (3, 1), right), True)
        wrong = NO_TUPLES + OTHERS + (
            ("real", (0,)), ("real", (0,), 1, 1), ["real", (0,), 1], ("real", [0], 1), ("real", (0,), True), ("real", (False,), 1), ("Real", (0,), 1),
            ("real", (0,), 0), ("real", (), 1), ("real", (1,), 1), ("real", (0, 0), 1), ("real", (2,), 1), ("real", (-2,), 1), ("real", 0, 1),
            ("real", (0,), (0, 1)), ("below", (0,), 1), ("imaginary", (0,), (0, 1)), ("real", ("0",), 1), ("real", (0,), SIXTY_ONE), (None, (0,), 1),
            (("real",), (0,), 1), ("real", None, 1), ("real", (0,), None))
        for value in wrong:
            self.assertIs(is_root_paper(THRICE, (3, 1), value), False)
        self.assertIs(is_root_paper(TWINS, (1, 1), ("imaginary", (), (1, 1))), True)
        for value in (("imaginary", (), (1, True)), ("imaginary", (), [1, 1]), ("imaginary", (), (1, 1, 1)), ("apart", (), (1, 1)), ("imaginary", (), (2, 2)),
                      ("real", (), 1), ("below", (), 1), ("imaginary", [], (1, 1)), ("", (), (1, 1)), (True, (), (1, 1))):
            self.assertIs(is_root_paper(TWINS, (1, 1), value), False)
        self.assertIs(is_root_paper(TWO_TWINS, (1, 1, 1, 1), ("apart", (), (1, 1, 1, 1))), True)
        self.assertIs(is_root_paper(TWO_TWINS, (1, 1, 1, 1), ("imaginary", (), (1, 1, 1, 1))), False)

    def test_errors(self):
        calls = WITH_SIZES + (lambda plan, sizes: is_root_paper(plan, sizes, ("real", (), 0)),)
        wrong = NO_TUPLES + ((), (1,), (1, 1, 1), (1, 7), (-1, 1), (True, 1), (1, False), [1, 1], (1, None), (SIXTY_ONE, 1))
        for call in calls:
            self.all_refused(InvalidPlan, lambda value: call(value, (1, 1)), NO_PLANS)
            self.all_refused(InvalidSizes, lambda value: call(TWINS, value), wrong)
            self.refuses(InvalidPlan, call, None, None)
            self.refuses(InvalidOperation, call, TWINS, (0, 0))
            self.refuses(InvalidOperation, call, POINT, (0,))
            self.refuses(InvalidOperation, call, FULL, (0,) * 6)

    def test_rows_bound(self):
        line = Plan.line(6)
        for call in FEW:
            call(Plan.line(4), (4, 4, 3, 3))
            call(line, (4, 4, 3, 3, 0, 0))
            self.refuses(TooMany, call, Plan.line(4), (6, 6, 6, 1), limit=400)
            self.refuses(TooMany, call, Plan.star(4), (4, 2, 2, 2, 2), limit=400)
            self.refuses(TooMany, call, Plan(5, ()), (3, 3, 4, 4, 1), limit=400)
            self.refuses(TooMany, call, Plan(5, ()), (0, 6, 6, 6, 1), limit=400)
            self.refuses(TooMany, call, line, (6,) * 6, limit=400)
        self.assertIs(is_root(line, (6,) * 6), False)
        self.assertEqual(root_paper(FULL, (6,) * 6)[0], "imaginary")


class Roots(Case):

    def test_roots_to(self):
        for plan, sizes in few_plans():
            told = tuple([row for row in rows_to(sizes) if root_paper(plan, row)[0] in ("real", "imaginary")])
            self.same(roots_to(plan, sizes), told)
            for row in rows_to(sizes):
                self.assertIs(is_root(plan, row), row in told)
            for row in told:
                kind = root_paper(plan, row)[0]
                self.assertTrue(plan.norm(row) == 1 if kind == "real" else plan.norm(row) <= 0)
                self.assertTrue(are_joined(plan, row))

    def test_roots_of_finite_plans(self):
        for plan, many in ((POINT, 1), (Plan.line(3), 6), (Plan.line(4), 10), (STAR, 12), (Plan.twins(0), 2), (Plan(3, ((1, 0),)), 4)):
            found = roots_to(plan, (2,) * plan.size)
            self.assertEqual(len(found), many)
            self.assertEqual(found, tuple([row for row in rows_to((2,) * plan.size) if plan.norm(row) == 1 and are_joined(plan, row)]))

    def test_roots_of_tame_plans(self):
        for plan in (TWINS, BENT, RING, BOTH_WAYS):
            null = null_row(plan)
            for row in roots_to(plan, (4,) * plan.size):
                self.assertIn(plan.norm(row), (0, 1))
                self.assertEqual(plan.norm(row) == 0, row in [tuple([k * size for size in null]) for k in range(1, 7)])

    def test_roots_stay_roots(self):
        for plan, sizes in few_plans():
            found = roots_to(plan, sizes)
            for row in found:
                for point in range(plan.size):
                    other = plan.reflected(row, point)
                    if row == unit(plan, point):
                        self.assertEqual(min(other), -1)
                    elif max(other) <= 6:
                        self.assertIs(is_root(plan, other), True)
                        self.assertEqual(root_paper(plan, other)[0], root_paper(plan, row)[0])
            for point in range(plan.size):
                self.assertEqual(roots_to(plan.turned_at(point), sizes), found)
            self.assertEqual(roots_to(plan.opposite(), sizes), found)

    def test_what_is_not_true(self):
        apart = Plan(3, ((0, 1), (0, 1)))
        self.assertEqual((apart.norm((1, 1, 1)), is_root(apart, (1, 1, 1))), (1, False))
        one = [(plan, row) for plan, sizes in few_plans() for row in rows_to(sizes) if plan.norm(row) == 1 and not is_root(plan, row)]
        self.assertTrue(one)
        self.assertEqual((is_root(TWINS, (1, 0)), is_root(TWINS, (2, 0)), is_root(CHAIN, (2, 2, 2))), (True, False, False))
        self.assertEqual((are_joined(CHAIN, (2, 1, 1)), is_root(CHAIN, (2, 1, 1))), (True, False))


class Multiplicities(Case):

    def test_the_recursion(self):
        """c and m meet what the document tells of them, reckoned with fractions."""
        for plan, sizes in few_plans():
            rows = rows_to(sizes)
            c, m = {}, {}
            for row in rows:
                c[row] = fractions.Fraction(*sum_number(plan, row))
                m[row] = multiplicity(plan, row)
                self.same(sum_number(plan, row), (c[row].numerator, c[row].denominator))
            for row in rows:
                shared = math.gcd(*row)
                parts = [fractions.Fraction(m[tuple([n // k for n in row])], k) for k in range(1, shared + 1) if shared % k == 0]
                self.assertEqual(c[row], sum(parts))
                factor = plan.match(row, row) - 2 * sum(row)
                pairs = [(e, less(row, e)) for e in rows if e != row and min(less(row, e)) >= 0]
                total = sum([plan.match(e, f) * c[e] * c[f] for e, f in pairs])
                if sum(row) == 1:
                    self.assertEqual(m[row], 1)
                else:
                    self.assertEqual(c[row] * factor, total)
                    self.assertTrue(factor != 0 or m[row] == 0)

    def test_multiplicities_and_roots(self):
        for plan, sizes in few_plans():
            found = multiplicities(plan, sizes)
            self.assertEqual(tuple(found), roots_to(plan, sizes))
            for row, many in found.items():
                self.same(multiplicity(plan, row), many)
                if root_paper(plan, row)[0] == "real":
                    self.assertEqual(many, 1)
            for row in rows_to(sizes):
                self.assertEqual(multiplicity(plan, row), found.get(row, 0))
            self.assertEqual(multiplicities(plan.opposite(), sizes), found)

    def test_known(self):
        for k in range(1, 7):
            self.assertEqual(multiplicity(TWINS, (k, k)), 1)
            self.assertEqual(multiplicity(BENT, (k, k, k)) if k < 7 else 2, 2)
        self.assertEqual([multiplicity(THRICE, row) for row in ((1, 1), (1, 2), (2, 2), (2, 3), (3, 3), (3, 4), (4, 4))], [1, 1, 1, 2, 3, 4, 6])
        self.assertEqual((multiplicity(Plan.star(4), (2, 1, 1, 1, 1)), multiplicity(Plan.star(4), (4, 2, 2, 1, 1))), (4, 0))
        self.assertEqual((sum_number(TWINS, (0, 6)), sum_number(CHAIN, (1, 0, 1)), sum_number(POINT, (4,))), ((1, 6), (0, 1), (1, 4)))
        self.same(multiplicity(CHAIN, (1, 0, 1)), 0)

    def test_values_are_reflected(self):
        for plan, sizes in few_plans():
            found = multiplicities(plan, sizes)
            for row in found:
                for point in range(plan.size):
                    other = plan.reflected(row, point)
                    if other in found:
                        self.assertEqual(found[other], found[row])


class Signs(Case):

    def test_product_over_roots(self):
        """The product of the powers of 1 - X ** b is the sum of the signs."""
        for plan, sizes in few_plans():
            product = {(0,) * plan.size: 1}
            for row, many in multiplicities(plan, sizes).items():
                for _ in range(many):
                    for at in sorted(product, reverse=True):
                        other = tuple([a + b for a, b in zip(at, row)])
                        if all([a <= b for a, b in zip(other, sizes)]):
                            product[other] = product.get(other, 0) - product[at]
            told = {row: product[row] for row in sorted(product) if product[row]}
            found = signed_sizes(plan, sizes)
            self.assertEqual(found, told)
            self.assertEqual(list(found), list(told))

    def test_by_all_walks(self):
        """The same signed sizes come of walks that may go beyond the sizes."""
        for plan, sizes in few_plans():
            signs, last = {(0,) * plan.size: 1}, [(0,) * plan.size]
            for _ in range(7):
                following = []
                for row in last:
                    for point in range(plan.size):
                        other = plan.reflected(row, point)
                        other = other[:point] + (other[point] + 1,) + other[point + 1:]
                        self.assertGreaterEqual(min(other), 0)
                        self.assertEqual(signs.setdefault(other, -signs[row]), -signs[row])
                        following.append(other)
                last = list(dict.fromkeys(following))[:60]
            found = signed_sizes(plan, sizes)
            for row, sign in signs.items():
                if all([a <= b for a, b in zip(row, sizes)]):
                    self.assertEqual(found[row], sign)

    def test_edges(self):
        self.assertEqual(signed_sizes(POINT, (6,)), {(0,): 1, (1,): -1})
        self.assertEqual(signed_sizes(Plan.twins(0), (1, 1)), {(0, 0): 1, (0, 1): -1, (1, 0): -1, (1, 1): 1})
        self.assertEqual(signed_sizes(TWINS, (0, 4)), {(0, 0): 1, (0, 1): -1})
        self.assertEqual(len(signed_sizes(CHAIN, (5, 5, 5))), 24)
        self.assertEqual(sum(signed_sizes(CHAIN, (5, 5, 5)).values()), 0)

    def test_sort_finite_by_roots(self):
        for plan in (TWINS, CHAIN, STAR, BENT, POINT):
            low, high = (2,) * plan.size, (3,) * plan.size
            self.assertIs(len(roots_to(plan, low)) == len(roots_to(plan, high)), sort_of(plan) == "finite")


if __name__ == "__main__":
    unittest.main()
