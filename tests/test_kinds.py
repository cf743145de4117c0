"""[0.11], [0.12], [10.1] to [10.5] and what stands there: kinds by fixed fillings."""

import fractions
import inspect
import itertools
import random
import unittest

from arrowsizes.chart.plans import Plan
from arrowsizes.errors import InvalidFilling, InvalidPlan, InvalidPrime, InvalidSizes, InvalidTable, TooMany
from arrowsizes.fill.fillings import Filling, hom_number
from arrowsizes.fixed import kinds as module
from arrowsizes.fixed import orbits as orbits_module
from arrowsizes.fixed.kinds import (
    all_kinds, are_turns_for, fixed_number, keepers_number, kinds_mass, kinds_number, orbit_number, unsplittable_number)
from arrowsizes.grid.tables import Table, idle_table, turn_number, turns, zero_table
from arrowsizes.split.splits import are_alike, is_firm, is_unsplittable, part_sizes
from tests.helpers import Case, NO_TUPLES, OTHERS, SIXTY_ONE, all_rows
from tests.some_fillings import BARE, BOTH_WAYS, all_fillings, all_homs, all_turns, some_fillings, some_turns
from tests.test_fillings import EYE, NO_FILLINGS
from tests.test_plans import BENT, FULL, NO_PLANS, POINT, RING, STAR, THRICE, TWINS
from tests.test_tables import NO_PRIMES, PRIMES

LINE = Plan.line(2)
# Lots of fillings that are gone through as a whole.
LOTS = ((TWINS, (1, 1), 3), (TWINS, (2, 1), 2), (TWINS, (1, 2), 3), (TWINS, (2, 2), 2), (BOTH_WAYS, (1, 2), 2), (BOTH_WAYS, (1, 1), 7), (RING, (1, 1, 2), 2),
        (BENT, (1, 1, 1), 5), (BENT, (2, 0, 1), 3), (STAR, (2, 1, 1, 1), 2), (LINE, (2, 2), 2), (LINE, (0, 3), 2), (POINT, (2,), 3), (BARE, (1, 2), 2),
        (THRICE, (1, 2), 2), (FULL, (1, 1, 0, 1, 0, 1), 3), (POINT, (0,), 5), (Plan.twins(9), (1, 1), 2), (Plan.twins(4), (1, 1), 5), (Plan.line(3), (1, 2, 1), 3),
        (BOTH_WAYS, (1, 2), 3), (Plan.line(3), (1, 2, 1), 5))


def product(numbers):
    found = 1
    for number in numbers:
        found *= number
    return found


def kept_by(filling, told):
    return all([told[j].times(x) == x.times(told[i]) for (i, j), x in zip(filling.plan.arrows, filling.tables)])


def rows_of(filling):
    return tuple([table.rows for table in filling.tables])


class FixedFillings(Case):

    def test_constants(self):
        self.same((module.MAX_TURNED, module.MAX_FILLED), (20000, 4096))

    def test_fixed_among_all(self):
        source = random.Random(1)
        for plan, sizes, prime in LOTS:
            fillings, lots = all_fillings(plan, prime, sizes), all_turns(prime, sizes)
            for told in source.sample(lots, min(12, len(lots))):
                self.same(fixed_number(plan, told), len([filling for filling in fillings if kept_by(filling, told)]))

    def test_fixed_great(self):
        idle = (idle_table(7, 6), idle_table(7, 6))
        self.assertEqual(fixed_number(Plan.twins(9), idle), 7 ** (9 * 36))
        self.assertEqual(fixed_number(Plan(6, ()), (idle_table(2, 6),) * 6), 1)
        self.assertEqual(fixed_number(POINT, (idle_table(2, 0),)), 1)
        self.assertEqual(fixed_number(LINE, (idle_table(3, 6), idle_table(3, 6).scaled(2))), 1)

    def test_turns_led_to_one_another(self):
        source = random.Random(2)
        for plan, prime, sizes in ((TWINS, 5, (3, 2)), (RING, 3, (2, 2, 2)), (BENT, 2, (4, 3, 3))):
            zero = Filling.zero(plan, prime, sizes)
            for _ in range(20):
                g, h = some_turns(source, zero), some_turns(source, zero)
                led = tuple([b.times(a).times(b.undone()) for a, b in zip(g, h)])
                self.assertEqual(fixed_number(plan, led), fixed_number(plan, g))

    def test_turns_of_one_order(self):
        """Turns of one order need not keep equally many fillings."""
        one, other = Table(3, 2, 2, ((2, 0), (0, 1))), Table(3, 2, 2, ((2, 0), (0, 2)))
        idle = idle_table(3, 2)
        self.assertEqual((one.times(one), other.times(other)), (idle, idle))
        self.assertNotEqual(fixed_number(LINE, (one, one)), fixed_number(LINE, (other, other)))

    def test_fixed_refused(self):
        one, two = idle_table(3, 1), idle_table(3, 2)
        self.assertEqual(fixed_number(LINE, (one, two)), 9)
        wrong = NO_TUPLES + OTHERS[:-1] + ((), (one,), (one, two, one), [one, two], (one, None), (one, zero_table(3, 2, 2)), (one, idle_table(5, 2)), (one, zero_table(3, 1, 2)),
                                      (one, idle_table(3, 7)), (idle_table(3, 36), one), (one.rows, two.rows), (one, Table(3, 2, 2, ((1, 2), (2, 1)))), (one, True))
        self.all_refused(InvalidTable, lambda value: fixed_number(LINE, value), wrong)
        self.all_refused(InvalidPlan, lambda value: fixed_number(value, (one, two)), NO_PLANS)
        self.refuses(InvalidPlan, fixed_number, None, None)
        self.assertEqual(fixed_number(LINE, (idle_table(3, 6), one)), 729)

    def test_are_turns_for(self):
        one, two = idle_table(3, 1), idle_table(3, 2)
        for prime in PRIMES:
            self.assertIs(are_turns_for(LINE, (1, 2), (idle_table(prime, 1), idle_table(prime, 2))), True)
        self.assertIs(are_turns_for(LINE, (0, 0), (idle_table(3, 0), idle_table(3, 0))), True)
        self.assertIs(are_turns_for(LINE, (0, 0), (idle_table(3, 0), idle_table(5, 0))), False)
        wrong = NO_TUPLES + OTHERS + ((), (one,), (two, one), (one, two, one), [one, two], (one, zero_table(3, 2, 2)), (one, idle_table(5, 2)), (one, None),
                                      (one, zero_table(3, 2, 1)), (one.rows, two.rows), (two, two), (True, two))
        for value in wrong:
            self.assertIs(are_turns_for(LINE, (1, 2), value), False)
        self.all_refused(InvalidPlan, lambda value: are_turns_for(value, (1, 2), ()), NO_PLANS)
        self.all_refused(InvalidSizes, lambda value: are_turns_for(LINE, value, ()), NO_TUPLES + ((), (1,), (1, 7), (True, 1), [1, 1], (1, -1), (1, SIXTY_ONE)))
        self.refuses(InvalidPlan, are_turns_for, None, None, None)


    def test_nothing_knows_of_polynomials(self):
        for told in (module, orbits_module):
            self.assertFalse([name for name in inspect.getsource(told).split() if name.startswith(("arrowsizes.poly", "arrowsizes.counted"))])


class Kinds(Case):

    def orbits(self, plan, sizes, prime):
        """The kinds, by all turns: for each one the rows of its fillings, ascending."""
        left = {rows_of(filling): filling for filling in all_fillings(plan, prime, sizes)}
        found, lots = [], all_turns(prime, sizes)
        while left:
            first = min(left)
            orbit = sorted(set([rows_of(left[first].changed(told)) for told in lots]))
            found.append(orbit)
            for rows in orbit:
                del left[rows]
        return found

    def test_by_all_turns(self):
        for plan, sizes, prime in LOTS:
            orbits = self.orbits(plan, sizes, prime)
            self.same(kinds_number(plan, sizes, prime), len(orbits))
            kinds = list(all_kinds(plan, sizes, prime))
            self.assertEqual([rows_of(filling) for filling in kinds], [orbit[0] for orbit in orbits])
            number = product([turn_number(prime, size) for size in sizes])
            masses = []
            for filling, orbit in zip(kinds, orbits):
                self.assertEqual((filling.plan, filling.prime, filling.sizes), (plan, prime, sizes))
                self.same(orbit_number(filling), len(orbit))
                self.same(keepers_number(filling), number // len(orbit))
                masses.append(fractions.Fraction(1, keepers_number(filling)))
            total = sum(masses)
            self.same(kinds_mass(plan, sizes, prime), (total.numerator, total.denominator))

    def test_keepers_by_endomorphisms(self):
        for filling in some_fillings(3, 150, most=2, total=5):
            if filling.prime ** sum([size * size for size in filling.sizes]) <= 700:
                homs = all_homs(filling, filling)
                told = len([hom for hom in homs if all([table.is_turn for table in hom])])
                self.assertEqual(keepers_number(filling), told)
                self.assertEqual(len([turned for turned in all_turns(filling.prime, filling.sizes) if kept_by(filling, turned)]), told)
                number = product([turn_number(filling.prime, size) for size in filling.sizes])
                self.assertEqual(orbit_number(filling) * told, number)

    def test_kinds_by_splitting(self):
        """The unsplittable kinds among all kinds, and the kinds as lots of unsplittable ones."""
        for plan, sizes, prime in LOTS + ((TWINS, (2, 3), 2), (THRICE, (2, 2), 2), (STAR, (2, 1, 1, 1), 3)):
            kinds = list(all_kinds(plan, sizes, prime))
            self.assertEqual(len(kinds), kinds_number(plan, sizes, prime))
            told = len([filling for filling in kinds if is_unsplittable(filling)])
            self.same(unsplittable_number(plan, sizes, prime), told)
            for one, other in itertools.islice(itertools.combinations(kinds, 2), 40):
                self.assertIs(are_alike(one, other), False)

    def test_lots_of_unsplittable_kinds(self):
        for plan, sizes, prime in ((TWINS, (2, 2), 3), (BENT, (1, 2, 1), 2), (STAR, (2, 1, 1, 1), 3), (RING, (1, 1, 1), 5), (LINE, (3, 2), 2), (BOTH_WAYS, (2, 2), 2)):
            parts = {row: unsplittable_number(plan, row, prime) for row in all_rows(*sizes)}
            self.assertEqual(parts.pop((0,) * plan.size), 0)
            lots = {row: 0 for row in all_rows(*sizes)}
            lots[(0,) * plan.size] = 1
            for row, many in parts.items():
                for _ in range(many):
                    for at in all_rows(*sizes):
                        less = tuple([a - b for a, b in zip(at, row)])
                        lots[at] += lots.get(less, 0)
            for row in all_rows(*sizes):
                self.assertEqual(kinds_number(plan, row, prime), lots[row])

    def test_not_told_for_one_prime(self):
        """Of the four unsplittable kinds of these sizes one is not firm."""
        kinds = [filling for filling in all_kinds(TWINS, (2, 2), 2) if is_unsplittable(filling)]
        self.assertEqual((len(kinds), len([filling for filling in kinds if is_firm(filling)])), (4, 3))
        kinds = list(all_kinds(TWINS, (2, 2), 2))
        pairs = [(keepers_number(filling), len(part_sizes(filling))) for filling in kinds]
        self.assertTrue([1 for one, other in itertools.product(pairs, repeat=2) if one[0] > other[0] and one[1] < other[1]])

    def test_zeros_and_no_arrows(self):
        for plan in (POINT, TWINS, FULL, BARE):
            zeros = (0,) * plan.size
            self.same(kinds_number(plan, zeros, 3), 1)
            self.same(unsplittable_number(plan, zeros, 3), 0)
            self.same(kinds_mass(plan, zeros, 3), (1, 1))
            self.assertEqual(list(all_kinds(plan, zeros, 3)), [Filling.zero(plan, 3, zeros)])
            self.same(keepers_number(Filling.zero(plan, 3, zeros)), 1)
            self.same(orbit_number(Filling.zero(plan, 3, zeros)), 1)
        self.assertEqual([unsplittable_number(BARE, sizes, 2) for sizes in ((1, 0), (1, 1), (2, 0))], [1, 0, 0])
        self.assertEqual(kinds_number(Plan(6, ()), (2, 2, 1, 1, 1, 1), 2), 1)

    def test_turns_bound(self):
        """Turns for sizes: 20000 are not passed by these numbers, 20160 and 28224 are."""
        for call in (kinds_number, unsplittable_number):
            call(LINE, (1, 2), 7)
            call(Plan(5, ((0, 2), (3, 1))), (2, 2, 1, 1, 1), 3)
            call(Plan(5, ()), (1, 1, 1, 1, 1), 7)
            call(Plan.twins(1), (3, 0), 3)
            call(Plan(6, ((0, 1),)), (1, 1, 1, 1, 1, 0), 7)
            for plan, sizes, prime in ((POINT, (4,), 2), (BARE, (3, 3), 2), (BARE, (3, 1), 3), (Plan(6, ()), (1,) * 6, 7), (POINT, (6,), 7), (TWINS, (4, 4), 2)):
                self.refuses(TooMany, call, plan, sizes, prime, limit=20000)

    def test_fillings_bound(self):
        self.assertEqual(len(list(all_kinds(TWINS, (1, 6), 2))), 5)
        self.assertEqual(len(list(all_kinds(LINE, (3, 4), 2))), 4)
        self.assertEqual(len(list(all_kinds(Plan(6, ()), (6,) * 6, 7))), 1)
        for plan, sizes, prime in ((LINE, (3, 3), 3), (THRICE, (1, 5), 2), (LINE, (1, 5), 7), (Plan.twins(9), (6, 6), 7), (TWINS, (4, 2), 2)):
            self.refuses(TooMany, lambda *values: next(all_kinds(*values)), plan, sizes, prime, limit=4096)
        self.assertEqual(len(list(all_kinds(LINE, (1, 4), 7))), 2)
        self.assertEqual(len(list(all_kinds(TWINS, (3, 2), 2))), kinds_number(TWINS, (3, 2), 2))

    def test_errors_come_with_the_first_result(self):
        for values in ((None, (1,), 2), (LINE, (1,), 2), (LINE, (1, 1), 4), (LINE, (6, 6), 7)):
            made = all_kinds(*values)
            with self.assertRaises((InvalidPlan, InvalidSizes, InvalidPrime, TooMany)):
                next(made)

    def test_keepers_bound(self):
        self.same(keepers_number(Filling.zero(Plan(2, ()), 2, (3, 2))), 168 * 6)
        self.same(keepers_number(Filling.zero(POINT, 3, (3,))), 11232)
        self.same(keepers_number(Filling.zero(Plan(6, ()), 2, (2, 2, 2, 1, 1, 0))), 216)
        self.same(keepers_number(Filling.zero(Plan(5, ()), 7, (1, 1, 1, 1, 1))), 6 ** 5)
        for call in (keepers_number, orbit_number):
            self.refuses(TooMany, call, Filling.zero(POINT, 2, (4,)), limit=20000)
            self.refuses(TooMany, call, Filling.zero(Plan(6, ()), 7, (1,) * 6), limit=20000)
            self.refuses(TooMany, call, Filling.zero(Plan(6, ()), 7, (6,) * 6), limit=20000)
            self.all_refused(InvalidFilling, call, NO_FILLINGS)
        wide = Filling(Plan.line(6), 2, (6,) * 6, (idle_table(2, 6),) * 5)
        self.assertEqual(hom_number(wide, wide), 36)
        self.refuses(TooMany, keepers_number, wide, limit=20000)
        self.assertEqual((keepers_number(EYE), orbit_number(EYE)), (1, 1))

    def test_great_orbits(self):
        """A filling with few endomorphisms and very many turns."""
        plan = Plan.twins(2)
        columns = tuple([tuple([int(row == column) for column in range(5)]) for row in range(6)])
        lower = tuple([tuple([int(row == column + 1) for column in range(5)]) for row in range(6)])
        filling = Filling(plan, 7, (5, 6), (Table(7, 6, 5, columns), Table(7, 6, 5, lower)))
        self.assertEqual(keepers_number(filling), 6)
        self.assertEqual(orbit_number(filling), turn_number(7, 5) * turn_number(7, 6) // 6)

    def test_mass_of_great_sizes(self):
        top, bottom = 7 ** (9 * 36), turn_number(7, 6) ** 2
        told = fractions.Fraction(top, bottom)
        self.assertEqual(kinds_mass(Plan.twins(9), (6, 6), 7), (told.numerator, told.denominator))
        self.assertEqual(kinds_mass(POINT, (1,), 2), (1, 1))
        self.assertEqual(len(list(turns(2, 3))), 168)

    def test_errors(self):
        calls = (kinds_number, unsplittable_number, kinds_mass, lambda *values: next(all_kinds(*values)))
        for call in calls:
            self.all_refused(InvalidPlan, lambda value: call(value, (1, 1), 2), NO_PLANS)
            self.all_refused(InvalidSizes, lambda value: call(LINE, value, 2), NO_TUPLES + ((), (1,), (1, 7), (True, 1), [1, 1], (1, -1), (1, SIXTY_ONE)))
            self.all_refused(InvalidPrime, lambda value: call(LINE, (1, 1), value), NO_PRIMES)
            self.refuses(InvalidPlan, call, None, None, None)
            self.refuses(InvalidSizes, call, LINE, (1,), 4)
            self.refuses(InvalidPrime, call, LINE, (6, 6), 4)

    def test_directions_have_no_effect(self):
        for plan, sizes, prime in ((TWINS, (2, 2), 2), (BENT, (1, 2, 1), 2), (STAR, (2, 1, 1, 1), 3), (RING, (1, 1, 2), 2)):
            for point in range(plan.size):
                self.assertEqual(kinds_number(plan.turned_at(point), sizes, prime), kinds_number(plan, sizes, prime))
                self.assertEqual(unsplittable_number(plan.turned_at(point), sizes, prime), unsplittable_number(plan, sizes, prime))


if __name__ == "__main__":
    unittest.main()
