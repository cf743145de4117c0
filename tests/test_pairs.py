"""[12.1] to [12.6] and what stands there: pairs."""

import itertools
import random
import unittest

from arrowsizes.chart.plans import Plan
from arrowsizes.counted.counts import firm_poly, firm_polys
from arrowsizes.errors import InvalidFilling, InvalidOperation, InvalidPlan, InvalidPrime, InvalidSizes, InvalidWeight, TooMany
from arrowsizes.fill.fillings import Filling, ext_number, hom_base, is_hom
from arrowsizes.grid.tables import Table, idle_table, turn_number, zero_table
from arrowsizes.paired import pairs as module
from arrowsizes.paired.pairs import (
    are_general, is_lift_paper, is_pair_told, lift_paper, lifts_number, pair_sums, pairs_number, pairs_poly)
from arrowsizes.poly.polys import Poly, Quotient, power_of_q, turn_count
from arrowsizes.poly.series import Series
from arrowsizes.split.splits import is_firm
from tests.helpers import Case, NO_TUPLES, OTHERS, SIXTY, SIXTY_ONE, all_rows
from tests.some_fillings import BARE, BOTH_WAYS, all_fillings, some_filling, some_fillings, some_turns
from tests.test_counts import LOTS, NO_SIZES
from tests.test_fillings import EYE, LINE, NO_FILLINGS
from tests.test_plans import APART, BENT, FULL, NO_PLANS, POINT, RING, STAR, THRICE, TWINS
from tests.test_tables import NO_PRIMES, PRIMES

CHAIN = Plan.line(3)
# Few fillings, with few mates each, that are gone through as a whole.
SMALL = ((TWINS, 2, (1, 1)), (TWINS, 3, (1, 1)), (TWINS, 2, (2, 1)), (LINE, 2, (2, 2)), (BOTH_WAYS, 2, (1, 2)), (RING, 2, (1, 1, 1)), (BENT, 3, (1, 1, 1)), (CHAIN, 2, (1, 2, 1)),
         (POINT, 3, (2,)), (BARE, 2, (2, 1)), (STAR, 2, (1, 1, 1, 1)), (LINE, 5, (1, 1)), (BOTH_WAYS, 3, (1, 1)), (LINE, 3, (2, 1)), (LINE, 2, (0, 2)), (THRICE, 2, (1, 1)))
NO_WEIGHTS = NO_TUPLES + ((), (1,), (1, 1, 1), (1, True), [1, 1], (1, None), ("1", 1), (1, SIXTY_ONE), (1, (1,)))


def mate_of(source, filling):
    return some_filling(source, filling.plan.opposite(), filling.prime, filling.sizes)


def some_numbers(source, plan, most=9):
    return tuple([source.randint(-most, most) for _ in range(plan.size)])


def sums_by_entries(filling, other):
    """The sums at all points, entry by entry."""
    found = [[[0] * size for _ in range(size)] for size in filling.sizes]
    for (i, j), x, y in zip(filling.plan.arrows, filling.tables, other.tables):
        for a, b, k in itertools.product(range(filling.sizes[j]), range(filling.sizes[j]), range(filling.sizes[i])):
            found[j][a][b] += x.rows[a][k] * y.rows[k][b]
        for a, b, k in itertools.product(range(filling.sizes[i]), range(filling.sizes[i]), range(filling.sizes[j])):
            found[i][a][b] -= y.rows[a][k] * x.rows[k][b]
    return tuple([tuple([tuple([number % filling.prime for number in row]) for row in rows]) for rows in found])


def is_told(filling, other, numbers):
    told = tuple([tuple([tuple([numbers[at] % filling.prime if a == b else 0 for b in range(size)]) for a in range(size)]) for at, size in enumerate(filling.sizes)])
    return sums_by_entries(filling, other) == told


def trace_sum(filling, numbers, hom):
    return sum([number * sum([table.rows[at][at] for at in range(table.height)]) for number, table in zip(numbers, hom)]) % filling.prime


def is_general(prime, sizes, numbers):
    if sum([a * b for a, b in zip(sizes, numbers)]) % prime:
        return False
    rows = [row for row in all_rows(*sizes) if any(row) and row != sizes]
    return all([sum([a * b for a, b in zip(row, numbers)]) % prime for row in rows])


class Pairs(Case):

    def test_constants(self):
        self.same((module.MAX_PAIRED, module.MAX_LIFTED), (4096, 12))

    def test_sums(self):
        source = random.Random(1)
        for filling in some_fillings(1, 150, most=4, total=12):
            other = mate_of(source, filling)
            found = pair_sums(filling, other)
            self.assertIsInstance(found, tuple)
            self.assertEqual(tuple([table.rows for table in found]), sums_by_entries(filling, other))
            self.assertEqual([(table.height, table.width, table.prime) for table in found], [(size, size, filling.prime) for size in filling.sizes])
            turned = pair_sums(other, filling) if filling.plan.opposite().opposite() == filling.plan else None
            self.assertEqual(turned, tuple([table.scaled(-1) for table in found]))

    def test_is_pair_told(self):
        source, met = random.Random(2), 0
        for plan, prime, sizes in SMALL:
            for filling in all_fillings(plan, prime, sizes)[:20]:
                for other in all_fillings(plan.opposite(), prime, sizes)[:20]:
                    numbers = some_numbers(source, plan)
                    for told in (numbers, (0,) * plan.size, (prime,) * plan.size):
                        met += is_told(filling, other, told)
                        self.assertIs(is_pair_told(filling, other, told), is_told(filling, other, told))
                    moved = tuple([number + prime * source.randint(-3, 3) for number in numbers])
                    self.assertIs(is_pair_told(filling, other, moved), is_pair_told(filling, other, numbers))
        self.assertGreater(met, 100)

    def test_great_numbers(self):
        filling = Filling(TWINS, 3, (1, 1), (idle_table(3, 1), zero_table(3, 1, 1)))
        other = Filling(TWINS.opposite(), 3, (1, 1), (idle_table(3, 1), zero_table(3, 1, 1)))
        self.assertIs(is_pair_told(filling, other, (SIXTY - 1, -SIXTY + 1)), SIXTY % 3 == 0)
        self.assertIs(is_pair_told(filling, other, (SIXTY, -SIXTY)), False)
        self.assertIs(is_pair_told(filling, other, (-1, 1)), True)

    def test_mates_refused(self):
        back = Filling.zero(LINE.opposite(), 2, (1, 1))
        wrong = NO_FILLINGS + OTHERS + (EYE, Filling.zero(LINE.opposite(), 3, (1, 1)), Filling.zero(LINE.opposite(), 2, (1, 2)), Filling.zero(BARE, 2, (1, 1)))
        for call in (pair_sums, lambda one, other: is_pair_told(one, other, (1, 1))):
            call(EYE, back)
            self.all_refused(InvalidFilling, lambda value: call(value, back), NO_FILLINGS)
            self.all_refused(InvalidFilling, lambda value: call(EYE, value), wrong)
        self.all_refused(InvalidWeight, lambda value: is_pair_told(EYE, back, value), NO_WEIGHTS)
        self.refuses(InvalidFilling, is_pair_told, EYE, EYE, None)
        both = Filling.zero(BOTH_WAYS, 2, (1, 1))
        self.refuses(InvalidFilling, pair_sums, both, both)
        self.assertEqual(len(pair_sums(both, Filling.zero(BOTH_WAYS.opposite(), 2, (1, 1)))), 2)

    def test_total_of_twelve(self):
        twelve, beyond = Filling.zero(CHAIN, 5, (6, 0, 6)), Filling.zero(CHAIN, 5, (6, 1, 6))
        numbers = (0, 3, 5)
        mate, far = Filling.zero(CHAIN.opposite(), 5, (6, 0, 6)), Filling.zero(CHAIN.opposite(), 5, (6, 1, 6))
        self.assertIs(is_pair_told(twelve, mate, numbers), True)
        self.assertEqual(pair_sums(twelve, mate)[0], zero_table(5, 6, 6))
        self.assertEqual((lift_paper(twelve, numbers), lifts_number(twelve, numbers)), (("lift", mate), 1))
        self.assertIs(is_lift_paper(twelve, numbers, ("lift", mate)), True)
        for call in (lambda: pair_sums(beyond, far), lambda: is_pair_told(beyond, far, numbers), lambda: lift_paper(beyond, numbers), lambda: lifts_number(beyond, numbers),
                     lambda: is_lift_paper(beyond, numbers, ("lift", far))):
            self.refuses(InvalidFilling, call)


class Lifts(Case):

    def test_among_all_mates(self):
        met = {"lift": 0, "hom": 0}
        for plan, prime, sizes in SMALL:
            mates = all_fillings(plan.opposite(), prime, sizes)
            for filling in all_fillings(plan, prime, sizes)[:25]:
                lots = itertools.product(range(prime), repeat=plan.size)
                for numbers in itertools.islice(lots, 30):
                    lifts = [other for other in mates if is_told(filling, other, numbers)]
                    self.same(lifts_number(filling, numbers), len(lifts))
                    self.assertIn(len(lifts), (0, prime ** ext_number(filling, filling)))
                    kind, shown = lift_paper(filling, numbers)
                    met[kind] += 1
                    self.assertEqual(kind, "lift" if lifts else "hom")
                    self.assertTrue(not lifts or shown in lifts)
                    self.check_paper(filling, numbers, kind, shown)
        self.assertGreater(min(met.values()), 300)

    def check_paper(self, filling, numbers, kind, shown):
        self.assertIs(is_lift_paper(filling, numbers, (kind, shown)), True)
        self.assertIs(is_lift_paper(filling, numbers, ("hom" if kind == "lift" else "lift", shown)), False)
        if kind == "lift":
            self.assertIs(is_pair_told(filling, shown, numbers), True)
        else:
            self.assertIs(is_hom(filling, filling, shown), True)
            self.assertNotEqual(trace_sum(filling, numbers, shown), 0)

    def test_by_traces(self):
        """There is a lift just if the traces of all homs of a base tell 0."""
        source = random.Random(3)
        for filling in some_fillings(4, 200, most=4, total=12):
            for _ in range(3):
                numbers = some_numbers(source, filling.plan)
                if source.random() < 0.3:
                    numbers = tuple([number * filling.prime for number in numbers])
                told = not any([trace_sum(filling, numbers, hom) for hom in hom_base(filling, filling)])
                kind, shown = lift_paper(filling, numbers)
                self.assertEqual(kind == "lift", told)
                self.check_paper(filling, numbers, kind, shown)
                self.assertEqual(lifts_number(filling, numbers), filling.prime ** ext_number(filling, filling) if told else 0)
                other = filling.changed(some_turns(source, filling))
                self.assertEqual(lifts_number(other, numbers), lifts_number(filling, numbers))

    def test_homs_are_judged(self):
        filling = Filling(TWINS, 3, (1, 1), (idle_table(3, 1), zero_table(3, 1, 1)))
        for number in range(3):
            hom = (Table(3, 1, 1, ((number,),)),) * 2
            self.assertIs(is_lift_paper(filling, (1, 1), ("hom", hom)), number > 0)
            self.assertIs(is_lift_paper(filling, (4, -2), ("hom", hom)), number > 0)
            self.assertIs(is_lift_paper(filling, (1, 2), ("hom", hom)), False)
        self.assertIs(is_lift_paper(filling, (1, 1), ("hom", (idle_table(3, 1), zero_table(3, 1, 1)))), False)

    def test_wrong_papers(self):
        filling = Filling(TWINS, 3, (1, 1), (idle_table(3, 1), Table(3, 1, 1, ((2,),))))
        mate = Filling(TWINS.opposite(), 3, (1, 1), (idle_table(3, 1), zero_table(3, 1, 1)))
        hom = (idle_table(3, 1), idle_table(3, 1))
        self.assertIs(is_lift_paper(filling, (2, 1), ("lift", mate)), True)
        self.assertIs(is_lift_paper(filling, (1, 1), ("hom", hom)), True)
        wrong = NO_TUPLES + OTHERS + (
            ("lift",), ("lift", mate, mate), ["lift", mate], ("Lift", mate), (("lift",), mate), (None, mate), (True, mate), ("lift", None), ("lift", filling), ("lift", mate.tables),
            ("lift", Filling.zero(TWINS.opposite(), 3, (1, 1))), ("lift", Filling.zero(TWINS.opposite(), 3, (1, 2))), ("lift", Filling.zero(TWINS.opposite(), 5, (1, 1))),
            ("hom", mate), ("hom", list(hom)), ("hom", hom[:1]), ("hom", None), ("hom", ()), ("", hom), ("hom", hom, hom), ("hom", hom))
        for value in wrong:
            self.assertIs(is_lift_paper(filling, (2, 1), value), False)
        for value in wrong[:-1] + (("lift", mate), ("lift", hom), ["hom", hom]):
            self.assertIs(is_lift_paper(filling, (1, 1), value), False)

    def test_errors(self):
        calls = (lift_paper, lifts_number, lambda filling, numbers: is_lift_paper(filling, numbers, ()))
        for call in calls:
            self.all_refused(InvalidFilling, lambda value: call(value, (1, 1)), NO_FILLINGS)
            self.all_refused(InvalidWeight, lambda value: call(EYE, value), NO_WEIGHTS)
            self.refuses(InvalidFilling, call, None, None)
            self.refuses(InvalidFilling, call, Filling.zero(CHAIN, 2, (5, 5, 5)), None)
            call(EYE, (SIXTY, -SIXTY))

    def test_zeros(self):
        for plan in (POINT, TWINS, FULL):
            none = Filling.zero(plan, 7, (0,) * plan.size)
            numbers = tuple(range(1, plan.size + 1))
            self.assertEqual(lift_paper(none, numbers), ("lift", Filling.zero(plan.opposite(), 7, (0,) * plan.size)))
            self.same(lifts_number(none, numbers), 1)

    def test_not_true_that_lifts_make_firm(self):
        """Twice the same filling over 2 has a lift for numbers other than zeros."""
        one = Filling.single(POINT, 2, 0)
        twice = Filling(LINE, 2, (2, 2), (idle_table(2, 2),))
        self.assertEqual((lift_paper(one, (1,))[0], lift_paper(twice, (1, 1))[0]), ("hom", "lift"))
        self.assertIs(is_firm(twice), False)


class Numbers(Case):

    def test_general(self):
        source, met = random.Random(5), {True: 0, False: 0}
        for plan, sizes in LOTS + ((TWINS, (1, 1)), (TWINS, (2, 1)), (CHAIN, (1, 1, 1)), (POINT, (1,)), (POINT, (2,))):
            for _ in range(60):
                prime, numbers = source.choice(PRIMES), some_numbers(source, plan)
                told = is_general(prime, sizes, numbers)
                met[told] += 1
                self.assertIs(are_general(plan, prime, sizes, numbers), told)
        self.assertGreater(min(met.values()), 40)
        self.assertIs(are_general(Plan(6, ()), 7, (6,) * 6, (1,) * 6), False)
        self.assertIs(are_general(POINT, 7, (1,), (0,)), True)

    def test_none_are_general(self):
        """(1, 2) has no general numbers over 2."""
        self.assertFalse([numbers for numbers in itertools.product(range(2), repeat=2) if are_general(TWINS, 2, (1, 2), numbers)])
        self.assertTrue([numbers for numbers in itertools.product(range(3), repeat=2) if are_general(TWINS, 3, (1, 2), numbers)])

    def test_general_and_firm(self):
        """Just firm fillings have a lift, and each of them has one."""
        met = 0
        for plan, prime, sizes in SMALL + ((THRICE, 3, (1, 1)), (TWINS, 3, (1, 2)), (BENT, 5, (1, 1, 1)), (TWINS, 3, (2, 1))):
            for numbers in itertools.product(range(prime), repeat=plan.size):
                if any(sizes) and are_general(plan, prime, sizes, numbers):
                    met += 1
                    for filling in all_fillings(plan, prime, sizes)[:40]:
                        self.assertIs(lifts_number(filling, numbers) > 0, is_firm(filling))
                    turns = 1
                    for size in sizes:
                        turns *= turn_number(prime, size)
                    told = Quotient(firm_poly(plan, sizes)).times(power_of_q(1 - plan.norm(sizes))).over(Poly((-1, 1))).at(prime)
                    self.assertEqual(pairs_number(plan, prime, sizes, numbers) * told[1], told[0] * turns)
        self.assertGreater(met, 12)

    def test_pairs_among_all(self):
        for plan, prime, sizes in SMALL:
            mates = all_fillings(plan.opposite(), prime, sizes)
            sums = [sums_by_entries(filling, other) for filling in all_fillings(plan, prime, sizes) for other in mates]
            if len(sums) > 5000:
                continue
            for numbers in itertools.islice(itertools.product(range(-1, prime - 1), repeat=plan.size), 20):
                wanted = tuple([tuple([tuple([numbers[at] % prime if a == b else 0 for b in range(size)]) for a in range(size)]) for at, size in enumerate(sizes)])
                found = pairs_number(plan, prime, sizes, numbers)
                self.same(found, sums.count(wanted))
                self.assertEqual(pairs_number(plan.opposite(), prime, sizes, tuple([-number for number in numbers])), found)
                self.assertEqual(pairs_number(plan, prime, sizes, tuple([-number for number in numbers])), found)

    def test_pairs_by_lifts(self):
        for plan, prime, sizes in ((TWINS, 2, (2, 2)), (STAR, 2, (2, 1, 1, 1)), (RING, 2, (1, 2, 1)), (BENT, 3, (1, 2, 1)), (APART, 2, (1, 1, 1, 0, 1, 1))):
            for numbers in ((0,) * plan.size, (1,) * plan.size, tuple(range(plan.size))):
                told = sum([lifts_number(filling, numbers) for filling in all_fillings(plan, prime, sizes)])
                self.assertEqual(pairs_number(plan, prime, sizes, numbers), told)

    def test_pairs_bound(self):
        self.assertEqual(pairs_number(Plan(6, ()), 7, (6,) * 6, (7, 0, -7, 14, 0, 0)), 1)
        self.assertEqual(pairs_number(Plan(6, ()), 7, (6,) * 6, (7, 0, -7, 14, 0, 1)), 0)
        self.assertEqual(pairs_number(TWINS, 2, (1, 6), (0, 0)), 20098)
        self.assertGreater(pairs_number(Plan.line(2), 2, (3, 4), (0, 0)), 0)
        for plan, prime, sizes in ((Plan.line(2), 3, (2, 4)), (TWINS, 7, (1, 3)), (THRICE, 2, (1, 5)), (Plan.twins(9), 7, (6, 6)), (FULL, 5, (1,) * 6)):
            self.refuses(TooMany, pairs_number, plan, prime, sizes, (0,) * plan.size, limit=4096)
        self.assertGreater(pairs_number(Plan.line(2), 7, (1, 4), (0, 0)), 0)

    def test_poly(self):
        """The polynomial, by the exponential of a series."""
        for plan, sizes in LOTS:
            entries = {row: Quotient(poly).times(Poly((0, 1))).over(Poly((-1, 1))) for row, poly in firm_polys(plan, sizes).items()}
            told = Series(sizes, entries).exponential().at(sizes)
            for size in sizes:
                told = told.times(turn_count(size))
            norm = plan.norm(sizes)
            found = pairs_poly(plan, sizes)
            self.assertIsInstance(found, Poly)
            told = told.times(power_of_q(-norm))
            self.assertTrue(told.is_whole)
            self.assertEqual(told.top, found)
            self.assertEqual(pairs_poly(plan.opposite(), sizes), found)

    def test_poly_at_primes(self):
        for plan, prime, sizes in SMALL + ((TWINS, 2, (2, 2)), (TWINS, 3, (2, 1)), (STAR, 2, (2, 1, 1, 1)), (RING, 2, (2, 1, 2)), (BOTH_WAYS, 3, (1, 2)), (FULL, 2, (1,) * 6),
                                       (POINT, 7, (4,)), (APART, 2, (1, 1, 1, 2, 1, 1)), (TWINS, 5, (2, 1)), (LINE, 2, (3, 4))):
            self.same(pairs_poly(plan, sizes).at(prime), pairs_number(plan, prime, sizes, (0,) * plan.size))

    def test_poly_edges(self):
        for plan in (POINT, TWINS, FULL):
            self.assertEqual(pairs_poly(plan, (0,) * plan.size), Poly((1,)))
        self.assertEqual(pairs_poly(POINT, (6,)), Poly((1,)))
        self.assertEqual(pairs_poly(BARE, (6, 4)), Poly((1,)))
        great = pairs_poly(Plan.twins(9), (5, 5))
        self.assertEqual((great.degree, great.coefficients[-1]), (2 * 225 - 50 + 1, 1))
        for plan, sizes in ((BARE, (6, 5)), (CHAIN, (6, 3, 1)), (FULL, (6,) * 6), (RING, (3, 3, 4))):
            self.refuses(TooMany, pairs_poly, plan, sizes, limit=400)

    def test_errors(self):
        calls = (are_general, pairs_number)
        for call in calls:
            self.all_refused(InvalidPlan, lambda value: call(value, 2, (1, 1), (1, 1)), NO_PLANS)
            self.all_refused(InvalidPrime, lambda value: call(LINE, value, (1, 1), (1, 1)), NO_PRIMES)
            self.all_refused(InvalidSizes, lambda value: call(LINE, 2, value, (1, 1)), NO_SIZES)
            self.all_refused(InvalidWeight, lambda value: call(LINE, 2, (1, 1), value), NO_WEIGHTS)
            self.refuses(InvalidPlan, call, None, 4, None, None)
            self.refuses(InvalidPrime, call, LINE, 4, None, None)
            self.refuses(InvalidSizes, call, LINE, 3, None, None)
            self.refuses(InvalidWeight, call, LINE, 3, (6, 6), None)
            call(LINE, 3, (1, 1), (SIXTY, -SIXTY))
        self.refuses(InvalidWeight, are_general, LINE, 3, (0, 0), (1,))
        self.refuses(InvalidOperation, are_general, LINE, 3, (0, 0), (1, 1))
        self.same(pairs_number(LINE, 3, (0, 0), (1, 1)), 1)
        self.all_refused(InvalidPlan, lambda value: pairs_poly(value, (1, 1)), NO_PLANS)
        self.all_refused(InvalidSizes, lambda value: pairs_poly(LINE, value), NO_SIZES)
        self.refuses(InvalidPlan, pairs_poly, None, None)


if __name__ == "__main__":
    unittest.main()
