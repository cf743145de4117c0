"""[0.8], [0.9], [5.1] to [5.6] and what stands there: plans."""

import itertools
import math
import random
import unittest

from arrowsizes.chart import plans as module
from arrowsizes.chart.plans import Plan, are_joined, bad_row, is_bad_row, is_sizes, null_row, sort_of
from arrowsizes.errors import InvalidCount, InvalidPlan, InvalidPoint, InvalidSizes
from tests.helpers import Case, NO_INTEGERS, NO_TUPLES, OTHERS, SIXTY, SIXTY_ONE, all_rows
from tests.test_tables import determinant

TWINS = Plan(2, ((0, 1), (0, 1)))
THRICE = Plan(2, ((0, 1), (0, 1), (0, 1)))
STAR = Plan(4, ((1, 0), (2, 0), (3, 0)))
BENT = Plan(3, ((0, 1), (1, 2), (0, 2)))
RING = Plan(3, ((0, 1), (1, 2), (2, 0)))
FULL = Plan(6, ((0, 1), (2, 1), (2, 3), (3, 4), (5, 4), (5, 0), (0, 3), (0, 3), (3, 0)))
POINT = Plan(1, ())
APART = Plan(6, ((4, 1), (1, 4), (2, 5)))
SOME = (TWINS, THRICE, STAR, BENT, RING, FULL, POINT, APART, Plan(6, ()), Plan.line(6), Plan.star(5), Plan.twins(9), Plan(2, ((0, 1), (1, 0))))
NO_PLANS = tuple([value for value in OTHERS if not isinstance(value, Plan)]) + (1, (2, ((0, 1),)))


def small_plans():
    """Plans with up to four points, one for each way to put up to three arrows between two of them."""
    for size in range(1, 5):
        pairs = list(itertools.combinations(range(size), 2))
        for many in itertools.product(range(3 if size == 4 else 4), repeat=len(pairs)):
            if sum(many) <= 9:
                yield Plan(size, tuple([pair for pair, times in zip(pairs, many) for _ in range(times)]))


def some_plans(seed, count):
    """Plans that look random, with five or six points."""
    source = random.Random(seed)
    for _ in range(count):
        size = source.randint(5, 6)
        arrows = [tuple(source.sample(range(size), 2)) for _ in range(source.randint(3, 9))]
        yield Plan(size, tuple(arrows))


def trees():
    """All plans with six points and five arrows that lead to lesser points; each tree is among them."""
    for goals in itertools.product(*[range(point) for point in range(1, 6)]):
        yield Plan(6, tuple([(point + 1, goal) for point, goal in enumerate(goals)]))


def sort_by_determinants(plan):
    """The sort, by all determinants along the diagonal."""
    rows = plan.match_table
    least = []
    for many in range(1, plan.size + 1):
        lots = itertools.combinations(range(plan.size), many)
        least.append([determinant([[rows[a][b] for b in lot] for a in lot]) for lot in lots])
    if all([lot[0] > 0 for lot in least]):
        return "finite"
    return "tame" if min([min(lot) for lot in least]) >= 0 else "wild"


class Making(Case):

    def test_constants(self):
        self.assertEqual((module.MOST_POINTS, module.MOST_ARROWS, module.MOST_SIZE), (6, 9, 6))

    def test_properties(self):
        plan = Plan(3, ((0, 1), (1, 2), (0, 1)))
        told = (("size", 3), ("arrows", ((0, 1), (1, 2), (0, 1))), ("has_ring", False), ("match_table", ((2, -2, 0), (-2, 2, -1), (0, -1, 2))))
        for name, value in told:
            self.same(getattr(plan, name), value)
            with self.assertRaises(AttributeError):
                setattr(plan, name, value)
        self.never_iterated(plan)

    def test_bounds(self):
        self.not_counts(lambda value: Plan(value, ()), 1, 6)
        self.assertEqual(len(Plan(2, ((0, 1), (1, 0)) * 4 + ((1, 0),)).arrows), 9)
        self.refuses(InvalidPlan, Plan, 2, ((0, 1),) * 10)
        self.refuses(InvalidCount, Plan, 7, ((0, 0),), value=7)

    def test_arrows_refused(self):
        self.all_refused(InvalidPlan, lambda value: Plan(2, value), NO_TUPLES)
        wrong = (((0, 0),), ((0, 2),), ((-1, 0),), ((0, 1, 1),), ((0,),), ((),), ([0, 1],), (0, 1), ((False, True),), ((0, True),), (("0", 1),),
                 ((0, 1), None), ((0, SIXTY_ONE),), (1,))
        self.all_refused(InvalidPlan, lambda value: Plan(2, value), wrong)
        self.refuses(InvalidPlan, Plan, 1, ((0, 0),))

    def test_made_by_name(self):
        self.assertEqual(Plan.line(1), Plan(1, ()))
        self.assertEqual(Plan.line(6).arrows, ((0, 1), (1, 2), (2, 3), (3, 4), (4, 5)))
        self.assertEqual(Plan.star(1), Plan(2, ((1, 0),)))
        self.assertEqual(Plan.star(5), Plan(6, ((1, 0), (2, 0), (3, 0), (4, 0), (5, 0))))
        self.assertEqual(Plan.twins(0), Plan(2, ()))
        self.assertEqual(Plan.twins(9), Plan(2, ((0, 1),) * 9))
        self.not_counts(Plan.line, 1, 6)
        self.not_counts(Plan.star, 1, 5)
        self.not_counts(Plan.twins, 0, 9)

    def test_equality(self):
        self.assertTrue(Plan(2, ((0, 1),)) == Plan.twins(1))
        self.assertFalse(Plan(2, ((0, 1),)) != Plan.twins(1))
        for value in OTHERS + (2, Plan(3, ((0, 1), (0, 1))), Plan(2, ((0, 1), (1, 0))), Plan(2, ((0, 1),))):
            self.assertIs(TWINS == value, False)
            self.assertIs(TWINS != value, True)
        self.assertFalse(Plan(3, ((0, 1), (1, 2))) == Plan(3, ((1, 2), (0, 1))))

    def test_texts(self):
        self.same(str(BENT), "plan of 3 points, arrows 0-1 1-2 0-2")
        self.same(str(POINT), "plan of 1 points, no arrows")
        self.same(str(Plan(2, ((1, 0), (1, 0)))), "plan of 2 points, arrows 1-0 1-0")

    def test_rings(self):
        told = [RING, FULL, APART, Plan(2, ((0, 1), (1, 0))), Plan(6, ((5, 4), (4, 3), (3, 2), (2, 1), (1, 0), (0, 5)))]
        for plan in told:
            self.assertIs(plan.has_ring, True)
        for plan in (TWINS, THRICE, STAR, BENT, POINT, Plan.line(6), Plan(6, ()), Plan(6, ((5, 4), (4, 3), (3, 2), (2, 1), (1, 0), (5, 0)))):
            self.assertIs(plan.has_ring, False)
        for plan in some_plans(1, 200):
            in_sequence = [all([lot.index(start) < lot.index(goal) for start, goal in plan.arrows])
                           for lot in itertools.permutations(range(plan.size))]
            self.assertIs(plan.has_ring, not any(in_sequence))


class Forms(Case):

    def rows_of(self, plan, seed, most=9):
        source = random.Random(seed)
        return [tuple([source.randint(-most, most) for _ in range(plan.size)]) for _ in range(6)]

    def test_form_match_norm(self):
        for plan in SOME:
            for one, other in itertools.product(self.rows_of(plan, 1), self.rows_of(plan, 2, SIXTY)):
                told = sum([one[at] * other[at] for at in range(plan.size)])
                for start, goal in plan.arrows:
                    told -= one[start] * other[goal]
                self.same(plan.form(one, other), told)
                self.assertEqual(plan.match(one, other), plan.form(one, other) + plan.form(other, one))
                rows = plan.match_table
                by_table = sum([one[a] * rows[a][b] * other[b] for a in range(plan.size) for b in range(plan.size)])
                self.assertEqual(plan.match(one, other), by_table)
                self.assertEqual(plan.norm(one), plan.form(one, one))
                self.assertEqual(2 * plan.norm(one), plan.match(one, one))

    def test_turning_round(self):
        for plan in SOME:
            for point in range(plan.size):
                turned = plan.turned_at(point)
                told = [(goal, start) if point in (start, goal) else (start, goal) for start, goal in plan.arrows]
                self.assertEqual(turned, Plan(plan.size, tuple(told)))
                self.assertEqual(turned.match_table, plan.match_table)
                self.assertEqual(turned.turned_at(point), plan)
            self.assertEqual(plan.opposite(), Plan(plan.size, tuple([(goal, start) for start, goal in plan.arrows])))
            for one, other in zip(self.rows_of(plan, 3), self.rows_of(plan, 4)):
                self.assertEqual(plan.opposite().form(one, other), plan.form(other, one))
                self.assertEqual(plan.turned_at(0).norm(one), plan.norm(one))

    def test_not_true_that_the_form_is_even(self):
        self.assertNotEqual(THRICE.form((1, 1), (1, 2)), THRICE.form((1, 2), (1, 1)))

    def test_reflected(self):
        for plan in SOME:
            for row in self.rows_of(plan, 5) + [(SIXTY // 100,) * plan.size]:
                for point in range(plan.size):
                    found = plan.reflected(row, point)
                    beside = [row[goal if start == point else start] for start, goal in plan.arrows if point in (start, goal)]
                    self.assertEqual(found, row[:point] + (sum(beside) - row[point],) + row[point + 1:])
                    unit = tuple([int(at == point) for at in range(plan.size)])
                    self.assertEqual(found[point], row[point] - plan.match(row, unit))
                    self.assertEqual(plan.reflected(found, point), row)
                    self.assertEqual(plan.norm(found), plan.norm(row))

    def test_rows_refused(self):
        wrong = NO_TUPLES + ((), (1,), (1, 2, 3), (1, True), (False, 1), [1, 2], (1, None), ("1", 2), (1, SIXTY_ONE), ((1,), 2))
        self.all_refused(InvalidSizes, TWINS.norm, wrong)
        for call in (TWINS.form, TWINS.match):
            self.all_refused(InvalidSizes, lambda value: call(value, (1, 2)), wrong)
            self.all_refused(InvalidSizes, lambda value: call((1, 2), value), wrong)
        self.all_refused(InvalidSizes, lambda value: TWINS.reflected(value, 0), wrong)
        self.refuses(InvalidSizes, TWINS.reflected, (1,), 2)
        self.assertEqual(TWINS.norm((-SIXTY, SIXTY)), 4 * SIXTY ** 2)

    def test_points_refused(self):
        wrong = NO_INTEGERS + (-1, 2)
        self.all_refused(InvalidPoint, lambda value: TWINS.reflected((1, 2), value), wrong)
        for name in ("turned_at", "ends_at", "starts_at"):
            getattr(TWINS, name)(0), getattr(TWINS, name)(1)
            self.all_refused(InvalidPoint, getattr(TWINS, name), wrong)


class Pieces(Case):

    def test_ends_and_starts(self):
        for plan in SOME:
            for point in range(plan.size):
                starts = tuple([at for at in range(len(plan.arrows)) if plan.arrows[at][0] == point])
                ends = tuple([at for at in range(len(plan.arrows)) if plan.arrows[at][1] == point])
                self.same(plan.starts_at(point), starts)
                self.same(plan.ends_at(point), ends)
                self.assertIs(point in plan.sinks(), not starts)
                self.assertIs(point in plan.sources(), not ends)
            for lot in (plan.sinks(), plan.sources()):
                self.same(lot, tuple(sorted(set(lot))))
        self.assertEqual((APART.sinks(), APART.sources()), ((0, 3, 5), (0, 2, 3)))

    def test_pieces(self):
        self.assertEqual(APART.pieces(), ((0,), (1, 4), (2, 5), (3,)))
        self.assertEqual(Plan(6, ((5, 4), (0, 5), (4, 1))).pieces(), ((0, 1, 4, 5), (2,), (3,)))
        self.assertEqual(Plan(6, ()).pieces(), ((0,), (1,), (2,), (3,), (4,), (5,)))
        for plan in some_plans(2, 100):
            near = {point: {point} for point in range(plan.size)}
            for start, goal in plan.arrows:
                lot = near[start] | near[goal]
                for point in lot:
                    near[point] = lot
            told = sorted(set([tuple(sorted(lot)) for lot in near.values()]))
            self.assertEqual(plan.pieces(), tuple(told))

    def test_piece_plan(self):
        self.assertEqual(BENT.piece_plan((0, 2)), Plan(2, ((0, 1),)))
        self.assertEqual(FULL.piece_plan((0, 3)), Plan(2, ((0, 1), (0, 1), (1, 0))))
        self.assertEqual(FULL.piece_plan((1, 2, 5)), Plan(3, ((1, 0),)))
        self.assertEqual(FULL.piece_plan((4,)), POINT)
        for plan in SOME:
            self.assertEqual(plan.piece_plan(tuple(range(plan.size))), plan)

    def test_piece_plan_refused(self):
        wrong = NO_TUPLES + ((), (1, 0), (0, 0), (3,), (-1,), (0, 3), (True,), (0, True), [0, 1], ("0",), ((0,),), (SIXTY_ONE,))
        self.all_refused(InvalidPoint, BENT.piece_plan, wrong)

    def test_is_sizes(self):
        for value in ((0, 0, 0), (6, 6, 6), (1, 0, 2)):
            self.assertIs(is_sizes(BENT, value), True)
        for value in NO_TUPLES + ((), (1, 2), (1, 2, 3, 4), (0, 7, 0), (-1, 0, 0), (True, 0, 0), [0, 0, 0], (0, None, 0), (SIXTY_ONE, 0, 0)):
            self.assertIs(is_sizes(BENT, value), False)

    def test_are_joined(self):
        for plan in SOME:
            for sizes in all_rows(*(1,) * plan.size):
                points = [point for point in range(plan.size) if sizes[point]]
                met = points[:1]
                for _ in points:
                    met += [b for a in met for b in points if (a, b) in plan.arrows or (b, a) in plan.arrows if b not in met]
                self.assertIs(are_joined(plan, sizes), len(points) > 0 and sorted(set(met)) == points)
        self.assertIs(are_joined(BENT, (0, 0, 0)), False)
        self.assertIs(are_joined(BENT, (6, 0, 6)), True)
        self.assertIs(are_joined(Plan.line(3), (6, 0, 6)), False)

    def test_are_joined_refused(self):
        wrong = NO_TUPLES + ((), (1, 2), (0, 7, 0), (-1, 0, 0), (True, 0, 0), [0, 0, 0], (0, None, 0))
        self.all_refused(InvalidSizes, lambda value: are_joined(BENT, value), wrong)

    def test_plans_refused(self):
        calls = (lambda value: is_sizes(value, (1,)), lambda value: are_joined(value, (1,)), sort_of, null_row, bad_row,
                 lambda value: is_bad_row(value, (1,)), lambda value: are_joined(value, None))
        for call in calls:
            self.all_refused(InvalidPlan, call, NO_PLANS)


class Sorts(Case):

    def test_sort_by_determinants(self):
        met = []
        for plan in list(small_plans()) + list(some_plans(3, 120)) + list(SOME):
            met.append(sort_of(plan))
            self.assertEqual(met[-1], sort_by_determinants(plan))
        self.assertEqual(sorted(set(met)), ["finite", "tame", "wild"])

    def test_sort_by_norms_of_small_rows(self):
        for plan in small_plans():
            norms = [plan.norm(row) for row in itertools.product(range(-2, 4), repeat=plan.size) if any(row)]
            told = "finite" if min(norms) > 0 else "tame" if min(norms) == 0 else "wild"
            self.assertEqual(sort_of(plan), told)

    def test_known_sorts(self):
        told = (("finite", (POINT, Plan.line(6), Plan.star(3), Plan(6, ()), Plan.twins(0), Plan.twins(1),
                            Plan(6, ((0, 1), (1, 2), (2, 3), (3, 4), (2, 5))))),
                ("tame", (TWINS, BENT, RING, Plan.star(4), Plan(2, ((0, 1), (1, 0))), Plan(5, ((0, 1), (0, 1), (2, 3))),
                          Plan(6, ((0, 1), (1, 2), (2, 3), (3, 4), (4, 5), (5, 0))), Plan(6, ((0, 2), (1, 2), (2, 3), (3, 4), (3, 5))), APART)),
                ("wild", (THRICE, Plan.star(5), FULL, Plan.twins(9), Plan(3, ((0, 1), (0, 1), (1, 2))))))
        for sort, plans in told:
            for plan in plans:
                self.same(sort_of(plan), sort)
                self.assertEqual(sort_of(plan.opposite()), sort)

    def test_null_rows(self):
        for plan in list(small_plans()) + list(some_plans(4, 60)) + list(SOME):
            row = null_row(plan)
            if sort_of(plan) == "tame" and len(plan.pieces()) == 1:
                self.assertEqual((plan.norm(row), math.gcd(*row)), (0, 1))
                self.assertTrue(is_sizes(plan, row) and min(row) >= 1)
                for other in itertools.product(range(-2, 3), repeat=plan.size):
                    if plan.size <= 4 and plan.norm(other) == 0:
                        self.assertIn(other, [tuple([k * size for size in row]) for k in range(-2, 3)])
            else:
                self.assertIsNone(row)
        self.assertEqual(null_row(Plan(6, ((0, 2), (1, 2), (2, 3), (3, 4), (3, 5)))), (1, 1, 2, 2, 1, 1))
        self.assertIsNone(null_row(Plan(3, ((0, 1), (0, 1)))))
        self.assertIsNone(null_row(POINT))

    def test_bad_rows(self):
        for plan in list(small_plans()) + list(trees()) + list(some_plans(5, 150)) + list(SOME):
            row, sort = bad_row(plan), sort_of(plan)
            if sort == "finite":
                self.assertIsNone(row)
            else:
                self.assertTrue(is_sizes(plan, row) and any(row))
                self.assertTrue(plan.norm(row) < 0 if sort == "wild" else plan.norm(row) == 0)
                self.assertIs(is_bad_row(plan, row), True)

    def test_is_bad_row(self):
        for plan in (TWINS, THRICE, BENT, STAR, POINT, Plan(4, ((0, 1), (0, 1), (2, 3), (2, 3), (2, 3)))):
            most = {"finite": None, "tame": 0, "wild": -1}[sort_of(plan)]
            for row in itertools.product(range(-1, 8 if plan.size < 4 else 4), repeat=plan.size):
                told = most is not None and any(row) and min(row) >= 0 and max(row) <= 6 and plan.norm(row) <= most
                self.assertIs(is_bad_row(plan, row), told)

    def test_is_bad_row_of_any_value(self):
        for plan in (TWINS, THRICE, STAR):
            for value in NO_TUPLES + ((), (1,), (True, True), (1, True), [1, 1], (1, 1, 1), (7, 7), ("1", 1), (SIXTY_ONE, 1)):
                self.assertIs(is_bad_row(plan, value), False)

    def test_not_true_that_rings_are_wild(self):
        plan = Plan(2, ((0, 1), (1, 0)))
        self.assertEqual((plan.has_ring, sort_of(plan)), (True, "tame"))


if __name__ == "__main__":
    unittest.main()
