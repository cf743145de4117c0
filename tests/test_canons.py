"""[14.1] to [14.8] and what stands there: canonical parts."""

import random
import unittest

from arrowsizes.canon.canons import (
    are_canonical, canonical_parts, endomorphism_number, free_number, is_splitting, splitting_of)
from arrowsizes.chart.plans import Plan, sort_of
from arrowsizes.errors import InvalidPlan, InvalidSizes, Refused, TooMany
from arrowsizes.fill.fillings import ext_number, hom_number
from arrowsizes.fixed.kinds import all_kinds
from arrowsizes.general.generals import ext_of_sizes, is_schur, schur_roots, sits_in
from arrowsizes.origin.roots import is_root, root_paper, roots_to
from arrowsizes.split.splits import part_sizes
from tests.helpers import Case, NO_TUPLES, OTHERS, SIXTY, all_rows
from tests.some_fillings import BARE, BOTH_WAYS, all_fillings
from tests.test_fillings import NO_SIZES
from tests.test_generals import FOUR, GENERAL, LINE, WIDE
from tests.test_plans import BENT, NO_PLANS, POINT, RING, STAR, THRICE, TWINS

ALL = (canonical_parts, splitting_of, free_number, endomorphism_number, lambda plan, sizes: are_canonical(plan, sizes, {}), lambda plan, sizes: is_splitting(plan, sizes, None))
CASES = tuple([(plan, sizes) for plan, most in GENERAL for sizes in all_rows(*most)])
FINITE = ((LINE, (2, 2, 2)), (STAR, (2, 2, 1, 1)), (Plan(4, ((0, 1), (2, 1), (3, 1))), (1, 2, 1, 1)), (Plan.line(2), (4, 4)), (BARE, (2, 3)), (POINT, (4,)), (Plan(3, ((1, 0), (1, 2))), (2, 3, 2)))


def less(whole, one):
    return tuple([a - b for a, b in zip(whole, one)])


def all_sums(rows, sizes):
    """All dicts from some of the rows to integers of at least 1 that add up to the sizes."""
    if not any(sizes):
        return [{}]
    if not rows:
        return []
    found, rest, many = [], sizes, 0
    while min(rest) >= 0:
        found += [{rows[0]: many, **told} if many else told for told in all_sums(rows[1:], rest)]
        rest, many = less(rest, rows[0]), many + 1
    return found


def is_told(plan, parts):
    """The judge of [14.3]."""
    for one, many in parts.items():
        for other in parts:
            if (one != other or many > 1) and ext_of_sizes(plan, one, other) > 0:
                return False
    return True


class Parts(Case):

    def test_by_all_sums(self):
        tried = 0
        for plan, sizes in CASES:
            if sum(sizes) > 6:
                continue
            sums = all_sums(list(schur_roots(plan, sizes)), sizes)
            tried += len(sums)
            found = canonical_parts(plan, sizes)
            self.assertEqual([told for told in sums if is_told(plan, told)], [found])
            for told in sums:
                self.assertIs(are_canonical(plan, sizes, told), told == found)
        self.assertGreater(tried, 1000)

    def test_kind_of_value(self):
        for plan, sizes in CASES:
            found = canonical_parts(plan, sizes)
            self.assertIs(type(found), dict)
            self.assertEqual(list(found), sorted(found))
            total = [sum([row[at] * many for row, many in found.items()]) for at in range(plan.size)]
            self.assertEqual(tuple(total), sizes)
            for row, many in found.items():
                self.assertIs(is_schur(plan, row), True)
                self.assertGreater(many, 0)
                self.assertTrue(many == 1 or plan.norm(row) >= 0)
                self.assertIs(sits_in(plan, row, sizes) and sits_in(plan, less(sizes, row), sizes), True)
            self.assertIs(are_canonical(plan, sizes, found), True)
            self.assertIs(found == {sizes: 1}, is_schur(plan, sizes))

    def test_edges(self):
        for plan, sizes, told in (
                (POINT, (0,), {}), (POINT, (6,), {(1,): 6}), (BARE, (6, 4), {(0, 1): 4, (1, 0): 6}), (TWINS, (6, 6), {(1, 1): 6}), (TWINS, (2, 5), {(0, 1): 1, (1, 2): 2}), (THRICE, (6, 6), {(6, 6): 1}),
                (THRICE, (1, 6), {(0, 1): 3, (1, 3): 1}), (Plan.twins(1), (3, 5), {(0, 1): 2, (1, 1): 3}), (Plan.twins(9), (1, 6), {(1, 6): 1}), (Plan.line(6), (1, 2, 1, 2, 1, 2), None), (BENT, (2, 2, 2), {(1, 1, 1): 2}),
                (Plan(6, ()), (1, 0, 2, 0, 0, 3), {(0, 0, 0, 0, 0, 1): 3, (0, 0, 1, 0, 0, 0): 2, (1, 0, 0, 0, 0, 0): 1}), (WIDE, (1, 1, 1, 1, 1, 1), {(0, 0, 0, 0, 1, 0): 1, (1, 1, 1, 1, 0, 1): 1}),
                (THRICE, (2, 2), {(2, 2): 1}), (THRICE, (4, 4), {(4, 4): 1})):
            if told is not None:
                self.assertEqual(canonical_parts(plan, sizes), told)
            self.assertIs(are_canonical(plan, sizes, canonical_parts(plan, sizes)), True)
        # A part with a norm below 0 beside others.
        self.assertEqual(canonical_parts(Plan(3, ((0, 1), (0, 1), (0, 1))), (2, 2, 2)), {(0, 0, 1): 2, (2, 2, 0): 1})

    def test_multiples(self):
        for plan, sizes in ((TWINS, (1, 1)), (TWINS, (1, 2)), (THRICE, (1, 1)), (THRICE, (1, 2)), (Plan(3, ((0, 1), (0, 1), (0, 1))), (1, 1, 1)), (BENT, (1, 1, 1)), (LINE, (1, 2, 1)), (STAR, (2, 1, 1, 1)),
                            (BENT, (1, 2, 1)), (POINT, (3,)), (Plan.star(4), (2, 1, 1, 1, 0))):
            parts = canonical_parts(plan, sizes)
            for many in (1, 2):
                told = {tuple([many * size for size in row]): 1 for row in parts if plan.norm(row) < 0}
                told.update({row: many * times for row, times in parts.items() if plan.norm(row) >= 0})
                self.assertEqual(canonical_parts(plan, tuple([many * size for size in sizes])), told)

    def test_finite_plans_by_kinds(self):
        """One kind has no ext number to itself: its parts are those of the general filling."""
        for plan, most in FINITE:
            for sizes in all_rows(*most):
                if sum([sizes[i] * sizes[j] for i, j in plan.arrows]) > 9:
                    continue
                rigid = [filling for filling in all_kinds(plan, sizes, 2) if ext_number(filling, filling) == 0]
                self.assertEqual(len(rigid), 1)
                parts = [row for row, _ in part_sizes(rigid[0])]
                self.assertEqual(canonical_parts(plan, sizes), {row: parts.count(row) for row in parts})

    def test_finite_plans_by_least_endomorphisms(self):
        for plan, most in FINITE:
            self.assertEqual(sort_of(plan), "finite")
            for sizes in all_rows(*most):
                if not any(sizes):
                    continue
                numbers = []
                for told in all_sums(list(roots_to(plan, sizes)), sizes):
                    numbers.append((sum([many * times * max(plan.form(a, b), 0) for a, many in told.items() for b, times in told.items()]), told))
                least = min([number for number, _ in numbers])
                self.assertEqual([told for number, told in numbers if number == least], [canonical_parts(plan, sizes)])
                self.same(endomorphism_number(plan, sizes), least)
                self.same(free_number(plan, sizes), 0)

    def test_reflected(self):
        """The parts of reflected sizes, for the plan turned there, are the reflected parts."""
        tried = 0
        for plan, sizes in CASES:
            parts = canonical_parts(plan, sizes)
            for point in plan.sinks() + plan.sources():
                unit = tuple([int(at == point) for at in range(plan.size)])
                row = plan.reflected(sizes, point)
                if unit in parts or max(row) > 6 or sum(row) > 14:
                    continue
                tried += 1
                self.assertGreaterEqual(min(row), 0)
                self.assertEqual(canonical_parts(plan.turned_at(point), row), {told: parts[plan.reflected(told, point)] for told in sorted([plan.reflected(told, point) for told in parts])})
        self.assertGreater(tried, 100)

    def test_opposite(self):
        for plan, sizes in CASES:
            self.assertEqual(canonical_parts(plan.opposite(), sizes), canonical_parts(plan, sizes))

    def test_wrong_values(self):
        self.assertIs(are_canonical(TWINS, (1, 3), {(1, 2): 1, (0, 1): 1}), True)
        wrong = OTHERS + (
            {}, {(0, 1): 1}, {(0, 1): 1, (1, 2): 2}, {(0, 1): True, (1, 2): 1}, {(False, True): 1, (True, 2): 1}, {(0, 1): 3, (1, 0): 1}, {(0, 1): 1, (1, 2): 1, (0, 0): 1}, {(0, 1): 1, (1, 2): 1, (1, 0): 0},
            ((0, 1), (1, 2)), [(0, 1), (1, 2)], {(0, 1): 1, (1, 2): "1"}, {(0, 1): 1, (1, 2): None}, {0: 1}, {"a": 1}, {(0, 1): 1, (1, 2): 1, "b": 1}, {(1, 2): SIXTY, (0, 1): 1}, (((0, 1), 1), ((1, 2), 1)), {None: 1}, {(0, 1, 0): 1, (1, 2): 1})
        for value in wrong:
            self.assertIs(are_canonical(TWINS, (1, 3), value), False)
        self.assertIs(are_canonical(TWINS, (0, 0), {}), True)
        for value in ((), [], None, {(0, 0): 1}, {(0, 0): 0}, set()):
            self.assertIs(are_canonical(TWINS, (0, 0), value), False)

    def test_what_is_not_true(self):
        self.assertIs(is_root(TWINS, (2, 2)), True)
        self.assertEqual(root_paper(TWINS, (2, 2))[0], "imaginary")
        self.assertIs(is_schur(TWINS, (2, 2)), False)
        one, other = canonical_parts(LINE, (1, 0, 0)), canonical_parts(LINE, (0, 1, 0))
        self.assertNotEqual(canonical_parts(LINE, (1, 1, 0)), {**one, **other})
        self.assertEqual(max([sum(told.values()) for told in all_sums(list(roots_to(LINE, (1, 1, 0))), (1, 1, 0))]), 2)


class Splittings(Case):

    def test_judged(self):
        for plan, sizes in CASES:
            found = splitting_of(plan, sizes)
            self.assertIs(found is None, is_schur(plan, sizes) or not any(sizes))
            if found is not None:
                self.assertIs(is_splitting(plan, sizes, found), True)
            if sum(sizes) > 5:
                continue
            for row in all_rows(*sizes):
                rest = less(sizes, row)
                told = any(row) and any(rest) and ext_of_sizes(plan, row, rest) == ext_of_sizes(plan, rest, row) == 0
                self.assertIs(is_splitting(plan, sizes, row), bool(told))

    def test_parts_of_both(self):
        for plan, sizes in CASES:
            found = splitting_of(plan, sizes)
            if found is not None:
                one, other = canonical_parts(plan, found), canonical_parts(plan, less(sizes, found))
                self.assertEqual(canonical_parts(plan, sizes), {row: one.get(row, 0) + other.get(row, 0) for row in sorted({**one, **other})})

    def test_wrong_values(self):
        self.assertIs(is_splitting(TWINS, (2, 2), (1, 1)), True)
        for value in NO_TUPLES + OTHERS + ((True, True), (True, 1), [1, 1], (1,), (1, 1, 1), (0, 0), (2, 2), (3, 3), (0, 1), (1, -1), (7, 1), ((1, 1),)):
            self.assertIs(is_splitting(TWINS, (2, 2), value), False)
        for value in all_rows(2, 2):
            self.assertIs(is_splitting(THRICE, (2, 2), value), False)
        self.assertIs(is_splitting(POINT, (0,), (0,)), False)


class Numbers(Case):

    def test_by_parts(self):
        for plan, sizes in CASES:
            free = sum([many * (1 - plan.norm(row)) for row, many in canonical_parts(plan, sizes).items()])
            self.same(free_number(plan, sizes), free)
            self.same(endomorphism_number(plan, sizes), plan.norm(sizes) + free)
            if sort_of(plan) == "finite":
                self.assertEqual(free, 0)

    def test_by_least_endomorphisms(self):
        """Over a field with enough elements some filling is like the general one."""
        for plan, prime, sizes in ((TWINS, 2, (1, 1)), (TWINS, 2, (2, 2)), (TWINS, 3, (2, 2)), (TWINS, 3, (1, 2)), (TWINS, 2, (1, 3)), (THRICE, 2, (1, 1)), (THRICE, 2, (2, 2)), (THRICE, 2, (2, 1)), (BENT, 2, (1, 1, 1)), (BENT, 2, (1, 2, 1)),
                                   (STAR, 2, (2, 1, 1, 1)), (FOUR, 2, (2, 1, 1, 1, 1)), (LINE, 2, (2, 1, 2)), (BARE, 2, (2, 3)), (Plan.twins(4), 2, (1, 2)), (POINT, 7, (2,))):
            least = min([hom_number(filling, filling) for filling in all_fillings(plan, prime, sizes)])
            self.assertEqual(endomorphism_number(plan, sizes), least)

    def test_zeros(self):
        for plan in (POINT, TWINS, WIDE):
            zeros = (0,) * plan.size
            self.same(free_number(plan, zeros), 0)
            self.same(endomorphism_number(plan, zeros), 0)
            self.assertEqual((canonical_parts(plan, zeros), splitting_of(plan, zeros)), ({}, None))

    def test_finite_exactly(self):
        """The free number is 0 everywhere just for plans of the finite sort."""
        for plan, sizes in ((TWINS, (1, 1)), (THRICE, (1, 1)), (BENT, (1, 1, 1)), (Plan.star(4), (2, 1, 1, 1, 1))):
            self.assertGreater(free_number(plan, sizes), 0)


class Errors(Case):

    def test_kinds_of_values(self):
        for call in ALL:
            self.all_refused(InvalidPlan, lambda value: call(value, (1, 1)), NO_PLANS)
            self.all_refused(InvalidSizes, lambda value: call(TWINS, value), NO_SIZES)
            self.refuses(InvalidPlan, call, None, None)

    def test_told_with_then(self):
        for call in ALL:
            for plan in (RING, BOTH_WAYS):
                self.refuses(Refused, call, plan, (1,) * plan.size, reason=("ring",))
                self.refuses(Refused, call, plan, (6,) * plan.size, reason=("ring",))
                self.refuses(InvalidSizes, call, plan, (7,) * plan.size)
            call(LINE, (5, 5, 4))
            call(Plan.line(4), (4, 4, 3, 2))
            self.refuses(TooMany, call, LINE, (5, 5, 5), limit=14)
            self.refuses(TooMany, call, Plan.line(6), (3, 3, 3, 2, 2, 2), limit=14)
            self.refuses(TooMany, call, Plan.line(6), (2, 2, 2, 2, 1, 1), limit=300)

    def test_some_great_sizes(self):
        source = random.Random(3)
        for _ in range(12):
            plan = source.choice([plan for plan, _ in GENERAL])
            sizes = tuple([source.randint(0, 6) for _ in range(plan.size)])
            many = 1
            for size in sizes:
                many *= size + 1
            if sum(sizes) <= 14 and many <= 300:
                self.assertIs(is_told(plan, canonical_parts(plan, sizes)), True)


if __name__ == "__main__":
    unittest.main()
