"""[0.14], [0.15], [9.1] to [9.6] and what stands there: mirrored fillings, and plans of the finite sort."""

import itertools
import random
import unittest

from arrowsizes.chart.plans import Plan, sort_of
from arrowsizes.errors import (
    InvalidFilling, InvalidOperation, InvalidPlan, InvalidPoint, InvalidPrime, InvalidSizes, TooMany)
from arrowsizes.fill.fillings import Filling, ext_number, hom_number
from arrowsizes.fixed.kinds import kinds_number
from arrowsizes.grid.tables import Table, idle_table
from arrowsizes.mirror.mirrors import (
    filling_of_root, finite_roots, hom_table, is_sink_word, mirrored, point_parts, root_parts, root_sums, sink_word)
from arrowsizes.origin.roots import is_root, roots_to
from arrowsizes.split.splits import are_alike, is_firm, is_unsplittable, part_sizes, parts_of, times_in
from tests.helpers import Case, NO_INTEGERS, NO_TUPLES, OTHERS, SIXTY_ONE, all_rows
from tests.some_fillings import BARE, BOTH_WAYS, columns_of, some_filling, some_fillings, some_sizes, some_turns
from tests.test_fillings import EYE, HEAD, NO_FILLINGS
from tests.test_plans import APART, BENT, FULL, NO_PLANS, POINT, RING, STAR, THRICE, TWINS
from tests.test_tables import NO_PRIMES, PRIMES

CHAIN = Plan.line(3)
E6 = Plan(6, ((0, 1), (1, 2), (3, 2), (4, 3), (2, 5)))
D6 = Plan(6, ((1, 0), (1, 2), (3, 2), (3, 4), (5, 3)))
FINITE = (POINT, BARE, Plan.line(2), CHAIN, Plan.line(4), STAR, Plan.star(2), Plan(4, ((0, 1), (3, 2))), Plan(4, ((2, 0),)), Plan(4, ((0, 1), (0, 2), (3, 0))), E6, D6,
          Plan.line(6), Plan(6, ()), Plan(5, ((0, 1), (2, 1), (2, 3), (4, 3))), Plan(3, ((1, 0), (1, 2))))
MIRRORED = (TWINS, THRICE, STAR, BENT, CHAIN, POINT, BARE, Plan(4, ((0, 1), (1, 0), (1, 2), (2, 3))), Plan(3, ((0, 1), (1, 0), (2, 0), (2, 0))), Plan.star(5), Plan(4, ((0, 1), (0, 1), (2, 1))))


def ends(plan):
    return [point for point in range(plan.size) if point in plan.sinks() or point in plan.sources()]


def mirror_cases(seed, many, most=2, total=6):
    """Fillings with a point to mirror them at, and a mirrored size of at most 6."""
    found = []
    for filling in some_fillings(seed, many, most, total, MIRRORED):
        for point in ends(filling.plan):
            beside = [filling.sizes[i if j == point else j] for i, j in filling.plan.arrows if point in (i, j)]
            if sum(beside) <= 6:
                found.append((filling, point, beside))
    return found


def single(filling, point):
    return Filling.single(filling.plan, filling.prime, point)


def without_points(filling, point):
    """The sum of the parts that are not the point filling."""
    found = Filling.zero(filling.plan, filling.prime, (0,) * filling.plan.size)
    for part in parts_of(filling):
        if not are_alike(part, single(filling, point)):
            found = found.summed(part)
    return found


class Mirrors(Case):

    def test_sink_by_all_columns(self):
        """At a sink the spaces of the mirrored filling are the columns that the joint table leads to 0."""
        tried = 0
        for filling, point, beside in mirror_cases(1, 400):
            if point not in filling.plan.sinks() or filling.prime ** sum(beside) > 400:
                continue
            tried += 1
            found, arrows = mirrored(filling, point), filling.plan.ends_at(point)
            self.assertEqual(found.plan, filling.plan.turned_at(point))
            self.assertEqual(found.prime, filling.prime)
            kernel = []
            for lot in itertools.product(*[columns_of(filling.prime, filling.sizes[filling.plan.arrows[at][0]]) for at in arrows]):
                led = [filling.tables[at].leading(column) for at, column in zip(arrows, lot)]
                if not any([sum([column[row] for column in led]) % filling.prime for row in range(filling.sizes[point])]):
                    kernel.append(lot)
            told = [tuple([found.tables[at].leading(column) for at in arrows]) for column in columns_of(filling.prime, found.sizes[point])]
            self.assertEqual(sorted(told), sorted(kernel))
            self.check_rest(filling, found, point)
        self.assertGreater(tried, 100)

    def test_source_by_all_columns(self):
        """At a source the columns that all new arrows together lead to 0 are those that the joint table makes."""
        tried = 0
        for filling, point, beside in mirror_cases(2, 400):
            if point in filling.plan.sinks() or filling.prime ** sum(beside) > 400:
                continue
            tried += 1
            found, arrows = mirrored(filling, point), filling.plan.starts_at(point)
            self.assertEqual(found.plan, filling.plan.turned_at(point))
            lost, reached = [], set()
            for lot in itertools.product(*[columns_of(filling.prime, filling.sizes[filling.plan.arrows[at][1]]) for at in arrows]):
                led = [found.tables[at].leading(column) for at, column in zip(arrows, lot)]
                total = tuple([sum([column[row] for column in led]) % filling.prime for row in range(found.sizes[point])])
                reached.add(total)
                if not any(total):
                    lost.append(lot)
            made = {tuple([filling.tables[at].leading(column) for at in arrows]) for column in columns_of(filling.prime, filling.sizes[point])}
            self.assertEqual(sorted(lost), sorted(made))
            self.assertEqual(len(reached), filling.prime ** found.sizes[point])
            self.check_rest(filling, found, point)
        self.assertGreater(tried, 60)

    def check_rest(self, filling, found, point):
        for at, arrow in enumerate(filling.plan.arrows):
            if point not in arrow:
                self.assertEqual(found.tables[at], filling.tables[at])
        for other in range(filling.plan.size):
            self.assertTrue(other == point or found.sizes[other] == filling.sizes[other])

    def test_sizes_and_point_parts(self):
        for filling, point, beside in mirror_cases(3, 150):
            found, parts = mirrored(filling, point), point_parts(filling, point)
            self.assertEqual(parts, times_in(single(filling, point), filling))
            self.assertEqual(found.sizes[point], sum(beside) - filling.sizes[point] + parts)
            if parts == 0:
                self.assertEqual(found.sizes, filling.plan.reflected(filling.sizes, point))

    def test_twice(self):
        for filling, point, _ in mirror_cases(4, 120):
            twice, kept = mirrored(mirrored(filling, point), point), without_points(filling, point)
            self.assertEqual(twice.plan, filling.plan)
            self.assertIs(are_alike(twice, kept), True)
            self.assertIs(are_alike(twice, filling), point_parts(filling, point) == 0)

    def test_sums(self):
        source = random.Random(5)
        for filling, point, beside in mirror_cases(5, 150, total=4):
            if sum(beside) <= 3:
                other = some_filling(source, filling.plan, filling.prime, filling.sizes)
                told = mirrored(filling, point).summed(mirrored(other, point))
                self.assertIs(are_alike(mirrored(filling.summed(other), point), told), True)
                self.assertEqual(point_parts(filling.summed(other), point), point_parts(filling, point) + point_parts(other, point))

    def test_alike_ones(self):
        source = random.Random(6)
        for filling, point, _ in mirror_cases(6, 60):
            other = filling.changed(some_turns(source, filling))
            self.assertIs(are_alike(mirrored(filling, point), mirrored(other, point)), True)
            self.assertEqual(point_parts(filling, point), point_parts(other, point))

    def test_unsplittable_ones(self):
        met = 0
        for filling, point, _ in mirror_cases(7, 250):
            if is_unsplittable(filling):
                met += 1
                found = mirrored(filling, point)
                if are_alike(filling, single(filling, point)):
                    self.assertEqual(found.sizes, (0,) * filling.plan.size)
                else:
                    self.assertEqual((is_unsplittable(found), is_firm(found)), (True, is_firm(filling)))
        self.assertGreater(met, 40)

    def test_hom_and_ext_numbers(self):
        source, tried = random.Random(8), 0
        for filling, point, _ in mirror_cases(8, 150):
            other = some_filling(source, filling.plan, filling.prime, some_sizes(source, filling.plan, 1, 4))
            if point_parts(filling, point) or point_parts(other, point):
                continue
            tried += 1
            for number in (hom_number, ext_number):
                self.assertEqual(number(mirrored(filling, point), mirrored(other, point)), number(filling, other))
        self.assertGreater(tried, 30)

    def test_bounds(self):
        for sizes, size in (((0, 1, 2, 3), 6), ((0, 6, 0, 0), 6), ((6, 2, 2, 2), 6)):
            self.assertEqual(mirrored(Filling.zero(STAR, 2, sizes), 0).sizes[0], size)
            self.assertEqual(mirrored(Filling.zero(STAR.opposite(), 2, sizes), 0).sizes[0], size)
        for sizes in ((0, 1, 3, 3), (6, 6, 6, 6), (0, 6, 1, 0)):
            self.refuses(TooMany, mirrored, Filling.zero(STAR, 2, sizes), 0, limit=6)
            self.refuses(TooMany, mirrored, Filling.zero(STAR.opposite(), 2, sizes), 0, limit=6)
        nine = Filling.zero(Plan.twins(9), 7, (6, 6))
        for point in (0, 1):
            self.refuses(TooMany, mirrored, nine, point, limit=6)
            self.assertEqual(point_parts(nine, point), 6)
        onto = Filling(Plan.twins(2), 5, (5, 6), (idle_rows(5, 6, 5, 0), idle_rows(5, 6, 5, 1)))
        self.assertEqual(mirrored(onto, 1).sizes, (5, 4))

    def test_point_without_arrows(self):
        filling = Filling.zero(Plan(2, ()), 3, (2, 4))
        self.assertEqual((mirrored(filling, 1), point_parts(filling, 1)), (Filling.zero(BARE, 3, (2, 0)), 4))
        self.assertEqual(mirrored(Filling.zero(POINT, 3, (0,)), 0), Filling.zero(POINT, 3, (0,)))

    def test_errors(self):
        for call in (mirrored, point_parts):
            self.all_refused(InvalidFilling, lambda value: call(value, 0), NO_FILLINGS)
            self.all_refused(InvalidPoint, lambda value: call(EYE, value), NO_INTEGERS + (-1, 2))
            self.refuses(InvalidFilling, call, None, None)
            self.refuses(InvalidOperation, call, Filling.zero(CHAIN, 2, (6, 6, 6)), 1)
            self.refuses(InvalidOperation, call, Filling.zero(RING, 2, (1, 1, 1)), 0)
            self.refuses(InvalidOperation, call, Filling.zero(BOTH_WAYS, 2, (1, 1)), 1)
            self.refuses(InvalidOperation, call, Filling.zero(FULL, 2, (6,) * 6), 0)
            self.refuses(InvalidOperation, call, Filling.zero(APART, 2, (6,) * 6), 4)

    def test_what_is_not_true(self):
        twice = mirrored(mirrored(HEAD, 0), 0)
        self.assertFalse(are_alike(twice, HEAD))
        one = Filling(TWINS, 2, (1, 1), (idle_table(2, 1), Table(2, 1, 1, ((0,),))))
        self.assertEqual((hom_number(one, one), ext_number(one, one)), (1, 1))


def idle_rows(prime, height, width, shift):
    """The table that has 1 where the row is so much below the column."""
    return Table(prime, height, width, tuple([tuple([int(row == column + shift) for column in range(width)]) for row in range(height)]))


class SinkWords(Case):

    def test_found_ones_are_judged(self):
        for plan in FINITE:
            for root in finite_roots(plan):
                word, point = sink_word(plan, root)
                self.assertIs(is_sink_word(plan, root, (word, point)), True)
                self.assertIs(self.is_word(plan, root, word, point), True)

    def is_word(self, plan, sizes, word, end):
        for point in word:
            if point not in plan.sinks() or sum(sizes) == 1:
                return False
            plan, sizes = plan.turned_at(point), plan.reflected(sizes, point)
            if min(sizes) < 0:
                return False
        return sizes == tuple([int(at == end) for at in range(plan.size)])

    def test_all_small_words(self):
        met = 0
        for plan in (CHAIN, Plan.star(2), Plan(3, ((1, 0), (1, 2))), Plan(3, ((1, 0),)), POINT):
            for root in finite_roots(plan):
                for many in range(5):
                    for word in itertools.product(range(plan.size), repeat=many):
                        for point in range(plan.size):
                            told = self.is_word(plan, root, word, point)
                            met += told
                            self.assertIs(is_sink_word(plan, root, (word, point)), told)
        self.assertGreater(met, 25)

    def test_points_beside(self):
        """A word may reflect at points far from the root, and back."""
        plan = Plan(3, ((1, 0),))
        self.assertIs(is_sink_word(plan, (1, 1, 0), ((2, 2, 2, 0), 1)), True)
        self.assertIs(is_sink_word(plan, (1, 1, 0), ((2,) * 3000 + (0,), 1)), True)
        self.assertIs(is_sink_word(plan, (1, 1, 0), ((1,), 0)), False)
        self.assertIs(is_sink_word(plan, (0, 1, 0), ((2,), 1)), False)

    def test_wrong_values(self):
        right = ((2, 1), 0)
        self.assertIs(is_sink_word(CHAIN, (1, 1, 1), right), True)
        wrong = NO_TUPLES + OTHERS + ([(2, 1), 0], ((2, 1),), ((2, 1), 0, 0), ([2, 1], 0), ((2, True), 0), ((2, 1), False), ((2, 1), None), ((2, 1), (0,)),
                                      ((3, 1), 0), ((-1, 1), 0), ((2, 1), 1), ((2,), 0), ((), 0), (("2", 1), 0), ((2, 1), 3), (None, 0), ((2, 1), SIXTY_ONE))
        for value in wrong:
            self.assertIs(is_sink_word(CHAIN, (1, 1, 1), value), False)

    def test_errors(self):
        for call in (sink_word, lambda plan, sizes: is_sink_word(plan, sizes, ((), 0)), lambda plan, sizes: filling_of_root(plan, 3, sizes)):
            self.all_refused(InvalidPlan, lambda value: call(value, (1, 1)), NO_PLANS)
            self.all_refused(InvalidSizes, lambda value: call(BARE, value), NO_TUPLES + ((), (1,), (1, 7), (True, 1), [1, 1], (1, -1), (1, SIXTY_ONE)))
            for plan, sizes in ((CHAIN, (1, 0, 1)), (CHAIN, (2, 2, 2)), (CHAIN, (0, 0, 0)), (TWINS, (1, 0)), (BENT, (1, 1, 1)), (RING, (1, 0, 0)), (APART, (1, 0, 0, 0, 0, 0))):
                self.refuses(InvalidOperation, call, plan, sizes)
            self.refuses(InvalidSizes, call, TWINS, (1, 7))
        self.all_refused(InvalidPrime, lambda value: filling_of_root(CHAIN, value, (1, 1, 1)), NO_PRIMES)
        self.refuses(InvalidPlan, filling_of_root, None, 4, None)
        self.refuses(InvalidPrime, filling_of_root, CHAIN, 4, None)


class FinitePlans(Case):

    def test_fillings_of_roots(self):
        for plan in FINITE:
            for root in finite_roots(plan):
                for prime in PRIMES:
                    found = filling_of_root(plan, prime, root)
                    self.assertEqual((found.plan, found.prime, found.sizes), (plan, prime, root))
                    self.assertEqual((hom_number(found, found), ext_number(found, found)), (1, 0))
                    if found.total <= 12:
                        self.assertTrue(is_unsplittable(found) and is_firm(found))

    def test_just_one_filling(self):
        """Unsplittable parts of fillings that look random are those of roots."""
        for filling in some_fillings(9, 150, most=3, total=8, plans=FINITE):
            for part in parts_of(filling):
                self.assertIs(is_root(filling.plan, part.sizes), True)
                self.assertIs(are_alike(part, filling_of_root(filling.plan, filling.prime, part.sizes)), True)

    def test_roots(self):
        for plan in FINITE:
            found = finite_roots(plan)
            self.assertEqual(found, tuple(sorted(found)))
            self.assertTrue(all([is_root(plan, root) for root in found]))
            if plan.size < 6:
                self.assertEqual(found, roots_to(plan, (2,) * plan.size))
            self.assertEqual(finite_roots(plan.opposite()), found)
        self.assertEqual([len(finite_roots(plan)) for plan in (E6, D6, Plan.line(6), Plan(6, ()), POINT)], [36, 30, 21, 6, 1])
        self.assertEqual(max([max(root) for root in finite_roots(E6)]), 3)

    def test_hom_table(self):
        for plan in FINITE[:10] + (E6,):
            table, roots = hom_table(plan), finite_roots(plan)
            self.assertEqual(list(table), [(one, other) for one in roots for other in roots])
            fillings = {root: filling_of_root(plan, 3, root) for root in roots[:12]}
            for one, other in itertools.product(fillings, repeat=2):
                form = plan.form(one, other)
                self.same(table[one, other], max(form, 0))
                self.assertEqual(hom_number(fillings[one], fillings[other]), max(form, 0))
                self.assertEqual(ext_number(fillings[one], fillings[other]), max(-form, 0))

    def test_root_parts(self):
        for filling in some_fillings(10, 200, most=4, total=12, plans=FINITE):
            found, told = root_parts(filling), {}
            for sizes, degree in part_sizes(filling):
                self.assertEqual(degree, 1)
                told[sizes] = told.get(sizes, 0) + 1
            self.assertEqual(found, told)
            self.assertEqual(list(found), sorted(found))

    def test_root_parts_of_great_fillings(self):
        source = random.Random(11)
        for plan in (E6, D6, Plan.line(6)):
            roots = finite_roots(plan)
            total, told = Filling.zero(plan, 5, (0,) * 6), {}
            for root in source.sample(roots, len(roots)):
                if max([a + b for a, b in zip(total.sizes, root)]) <= 6:
                    total = total.summed(filling_of_root(plan, 5, root))
                    told[root] = told.get(root, 0) + 1
            self.assertGreater(total.total, 20)
            self.assertEqual(root_parts(total.changed(some_turns(source, total))), told)
        self.assertEqual(root_parts(Filling.zero(E6, 2, (6,) * 6)), {tuple([int(at == k) for at in range(6)]): 6 for k in range(6)})
        self.assertEqual(root_parts(Filling.zero(E6, 2, (0,) * 6)), {})

    def test_root_sums(self):
        for plan, most in ((CHAIN, 3), (STAR, 2), (Plan.line(2), 5), (POINT, 6), (BARE, 2), (Plan(4, ((0, 1), (3, 2))), 2), (Plan.line(4), 2)):
            roots = finite_roots(plan)
            for sizes in all_rows(*(most,) * plan.size):
                self.same(root_sums(plan, sizes), self.ways(roots, sizes))
        for plan, sizes, prime in ((CHAIN, (2, 2, 1), 2), (STAR, (2, 1, 1, 1), 3), (CHAIN, (1, 2, 1), 3), (Plan.line(2), (2, 2), 2), (CHAIN.turned_at(1), (2, 2, 1), 2)):
            self.assertEqual(root_sums(plan, sizes), kinds_number(plan, sizes, prime))

    def ways(self, roots, sizes):
        if not any(sizes):
            return 1
        if not roots:
            return 0
        rest, found = sizes, 0
        while min(rest) >= 0:
            found += self.ways(roots[1:], rest)
            rest = tuple([a - b for a, b in zip(rest, roots[0])])
        return found

    def test_root_sums_bound(self):
        self.assertEqual(root_sums(Plan(4, ()), (6, 6, 6, 6)), 1)
        self.assertEqual(root_sums(Plan.line(6), (6, 6, 6, 0, 0, 6)), root_sums(CHAIN, (6, 6, 6)))
        self.assertEqual(root_sums(Plan(5, ()), (4, 4, 4, 5, 3)), 1)
        self.refuses(TooMany, root_sums, Plan(5, ()), (4, 4, 4, 4, 4), limit=3000)
        self.refuses(TooMany, root_sums, Plan(5, ()), (6, 5, 5, 5, 1), limit=3000)
        self.refuses(TooMany, root_sums, E6, (6,) * 6, limit=3000)
        self.refuses(InvalidOperation, root_sums, FULL, (6,) * 6)

    def test_not_finite(self):
        for plan in (TWINS, THRICE, BENT, RING, FULL, BOTH_WAYS, Plan.star(4), APART):
            self.assertNotEqual(sort_of(plan), "finite")
            self.refuses(InvalidOperation, finite_roots, plan)
            self.refuses(InvalidOperation, hom_table, plan)
            self.refuses(InvalidOperation, root_sums, plan, (0,) * plan.size)
            self.refuses(InvalidOperation, root_parts, Filling.zero(plan, 2, (0,) * plan.size))
        for call in (finite_roots, hom_table, lambda value: root_sums(value, (1,))):
            self.all_refused(InvalidPlan, call, NO_PLANS)
        self.all_refused(InvalidFilling, root_parts, NO_FILLINGS)
        self.all_refused(InvalidSizes, lambda value: root_sums(CHAIN, value), NO_TUPLES + ((), (1, 1), (1, 1, 7), [1, 1, 1], (True, 1, 1), (1, 1, -1)))
        self.refuses(InvalidSizes, root_sums, TWINS, (1,))
        self.same(root_sums(E6, (0,) * 6), 1)


if __name__ == "__main__":
    unittest.main()
