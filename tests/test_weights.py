"""[0.17], [15.1] to [15.7] and what stands there: weights, steady fillings, shares and types."""

import itertools
import random
import unittest

from arrowsizes.chart.plans import Plan
from arrowsizes.errors import (
    InvalidFilling, InvalidOperation, InvalidPlan, InvalidSizes, InvalidWeight, Refused, TooMany)
from arrowsizes.fill.fillings import Filling, is_sub, quotient_filling, sub_filling
from arrowsizes.general.generals import is_schur, subs_of
from arrowsizes.grid.tables import Table, idle_table, spaces, turn_number, zero_table
from arrowsizes.poly.polys import Poly, Quotient, power_of_q, turn_count
from arrowsizes.steady import weights as module
from arrowsizes.steady.weights import (
    barring_row, has_hard, has_steady, is_barring_row, is_hard_filling, is_steady_filling, mean_of, steady_share,
    type_of_filling, type_share, types_of, whole_share)
from tests.helpers import Case, NO_INTEGERS, NO_TUPLES, OTHERS, SIXTY, SIXTY_ONE, all_rows
from tests.some_fillings import BARE, BOTH_WAYS, all_fillings, some_filling, some_fillings, some_turns
from tests.test_fillings import EYE, NO_FILLINGS, NO_SIZES
from tests.test_generals import FOUR, LINE, WIDE
from tests.test_plans import BENT, FULL, NO_PLANS, POINT, RING, STAR, THRICE, TWINS

NO_WEIGHTS = NO_TUPLES + ((), (1,), (1, 1, 1), (True, 1), (1, False), [1, 1], (1, None), (1, "1"), (SIXTY_ONE, 1), (1, -SIXTY_ONE), ((1, 1),))
ZEROS = ((0, 0),)
Q = Poly((0, 1))
# Plans with weights and sizes for which all fillings over a field are few.
COUNTED = (
    (TWINS, (1, 0), 2, (2, 2)), (TWINS, (0, 1), 2, (2, 1)), (TWINS, (0, 0), 2, (2, 2)), (TWINS, (-3, 4), 3, (1, 2)), (THRICE, (1, 0), 2, (2, 1)), (THRICE, (0, 5), 2, (1, 2)), (LINE, (3, 2, 1), 2, (2, 1, 2)),
    (LINE, (1, 2, 3), 2, (1, 2, 1)), (LINE, (1, 0, 1), 3, (1, 1, 1)), (BENT, (1, 5, 2), 2, (1, 2, 1)), (STAR, (-1, 0, 0, 0), 2, (2, 1, 1, 1)), (STAR, (1, 2, 3, 4), 2, (2, 1, 1, 1)), (BARE, (2, 1), 2, (2, 1)), (POINT, (4,), 3, (2,)),
    (RING, (1, 2, 0), 2, (1, 1, 2)), (BOTH_WAYS, (1, 0), 2, (2, 1)), (BOTH_WAYS, (0, 0), 3, (1, 1)), (Plan.line(2), (1, 0), 5, (1, 1)), (Plan.line(2), (-1, -2), 7, (1, 1)))
LISTED = (
    (TWINS, (3, 3)), (THRICE, (3, 3)), (LINE, (2, 2, 2)), (BENT, (2, 2, 1)), (STAR, (2, 1, 1, 1)), (FOUR, (2, 1, 1, 1, 1)), (WIDE, (1, 1, 1, 1, 1, 1)), (BARE, (2, 3)), (POINT, (5,)), (Plan.twins(4), (2, 3)))


def mean(weight, row):
    """The mean as a pair that is compared by cross products."""
    return sum([a * b for a, b in zip(weight, row)]), sum(row)


def is_greater(one, other):
    return one[0] * other[1] > other[0] * one[1]


def some_weight(source, plan):
    kind = source.randint(0, 3)
    if kind == 0:
        return tuple([source.randint(-2, 2) for _ in range(plan.size)])
    if kind == 1:
        return tuple([source.choice((10 ** 50, 10 ** 50 + 1, -10 ** 59)) for _ in range(plan.size)])
    return tuple([source.randint(-9, 9) for _ in range(plan.size)])


def weighted(seed, each=4):
    source = random.Random(seed)
    return [(plan, some_weight(source, plan), sizes) for plan, most in LISTED for sizes in all_rows(*most) if any(sizes) and source.randint(0, 2) == 0 for _ in range(each)]


def all_subs(filling):
    """All subs of a filling, by all rows of spaces."""
    options = [[base for many in range(size + 1) for base in spaces(filling.prime, size, many)] for size in filling.sizes]
    return [lot for lot in itertools.product(*options) if is_sub(filling, lot)]


def sizes_of(lot):
    return tuple([len(columns) for columns in lot])


def type_by_quotients(filling, weight):
    """The type, by the steepest greatest sub and the quotient by it, again and again."""
    found = []
    while filling.total:
        best = None
        for lot in all_subs(filling):
            row = sizes_of(lot)
            if any(row) and (best is None or is_greater(mean(weight, row), mean(weight, sizes_of(best)))
                             or (not is_greater(mean(weight, sizes_of(best)), mean(weight, row)) and sum(row) > sum(sizes_of(best)))):
                best = lot
        found.append(sizes_of(best))
        filling = quotient_filling(filling, best)
    return tuple(found)


def falling(plan, weight, sizes, last=None):
    """All tuples of sizes other than 0 that add up, and whose means fall."""
    if not any(sizes):
        return [()]
    found = []
    for row in all_rows(*sizes):
        if any(row) and (last is None or is_greater(mean(weight, last), mean(weight, row))):
            found += [(row,) + rest for rest in falling(plan, weight, tuple([a - b for a, b in zip(sizes, row)]), row)]
    return found


def turns_number(prime, sizes):
    found = 1
    for size in sizes:
        found *= turn_number(prime, size)
    return found


class Means(Case):

    def test_constants(self):
        self.assertEqual((module.MAX_STEADY, module.MAX_CHAINS, module.MAX_TRIED), (14, 100, 4096))

    def test_means(self):
        for plan, weight, sizes in weighted(1, 1):
            top, bottom = mean_of(plan, weight, sizes)
            self.assertEqual(top * sum(sizes), bottom * mean(weight, sizes)[0])
            self.same(mean_of(plan, weight, sizes), module.lowest_terms(*mean(weight, sizes)))
        self.assertEqual(mean_of(FULL, (SIXTY,) * 6, (6,) * 6), (SIXTY, 1))
        self.assertEqual(mean_of(TWINS, (SIXTY, -SIXTY), (6, 6)), (0, 1))
        self.assertEqual(mean_of(TWINS, (-3, 0), (2, 2)), (-3, 2))
        self.assertEqual(mean_of(RING, (1, 2, 3), (0, 6, 3)), (7, 3))


class Steady(Case):

    def test_by_all_rows(self):
        met = {True: 0, False: 0}
        for plan, weight, sizes in weighted(2):
            inner, own = subs_of(plan, sizes), mean(weight, sizes)
            bars = [row for row in inner if any(row) and is_greater(mean(weight, row), own)]
            hard = [row for row in inner if any(row) and row != sizes and not is_greater(own, mean(weight, row))]
            self.assertIs(has_steady(plan, weight, sizes), not bars)
            self.assertIs(has_hard(plan, weight, sizes), not hard)
            met[not bars] += 1
            found = barring_row(plan, weight, sizes)
            self.assertTrue(found in bars if bars else found is None)
            if sum(sizes) <= 3:
                for row in all_rows(*[size + 1 for size in sizes]):
                    self.assertIs(is_barring_row(plan, weight, sizes, row), row in bars)
        self.assertGreater(min(met.values()), 50)

    def test_by_all_fillings(self):
        """Over a small field, for plans of the finite sort."""
        for plan, prime, most in ((LINE, 2, (2, 1, 2)), (Plan.line(2), 3, (2, 2)), (STAR, 2, (2, 1, 1, 1)), (BARE, 2, (2, 2)), (Plan(3, ((1, 0), (1, 2))), 2, (1, 2, 2))):
            source = random.Random(4)
            for sizes in all_rows(*most):
                if not any(sizes):
                    continue
                lots = {tuple(sorted(set([sizes_of(lot) for lot in all_subs(filling)]))) for filling in all_fillings(plan, prime, sizes)}
                for _ in range(4):
                    weight = some_weight(source, plan)
                    own = mean(weight, sizes)
                    steady = [lot for lot in lots if not any([is_greater(mean(weight, row), own) for row in lot if any(row)])]
                    hard = [lot for lot in lots if all([is_greater(own, mean(weight, row)) for row in lot if any(row) and row != sizes])]
                    self.assertIs(has_steady(plan, weight, sizes), bool(steady))
                    self.assertIs(has_hard(plan, weight, sizes), bool(hard))

    def test_equal_means(self):
        for plan, sizes in ((TWINS, (2, 2)), (LINE, (1, 2, 1)), (BARE, (1, 3))):
            for weight in ((0,) * plan.size, (SIXTY,) * plan.size, (-7,) * plan.size):
                self.assertIs(has_steady(plan, weight, sizes), True)
                self.assertIs(has_hard(plan, weight, sizes), False)
        self.assertIs(has_hard(POINT, (5,), (1,)), True)
        self.assertIs(has_hard(POINT, (5,), (2,)), False)

    def test_wrong_values(self):
        self.assertIs(is_barring_row(TWINS, (0, 1), (1, 1), (0, 1)), True)
        for value in NO_TUPLES + OTHERS + ((False, True), (0, True), [0, 1], (0, 1, 0), (1,), (0, 0), (1, 1), (1, 0), (0, 2), (0, -1), (0, 7), ((0, 1),)):
            self.assertIs(is_barring_row(TWINS, (0, 1), (1, 1), value), False)
            self.assertIs(is_barring_row(TWINS, (1, 0), (1, 1), value), False)

    def test_not_true_of_schur_roots(self):
        """A Schur root and a weight without hard fillings, and even without steady ones."""
        self.assertIs(is_schur(TWINS, (1, 1)), True)
        self.assertEqual((has_hard(TWINS, (0, 1), (1, 1)), has_steady(TWINS, (0, 1), (1, 1))), (False, False))

    def test_not_true_of_sums(self):
        """Two steady fillings of unlike means have a sum that is not."""
        one, other = Filling.single(TWINS, 2, 0), Filling.single(TWINS, 2, 1)
        self.assertEqual([is_steady_filling(filling, (1, 0)) for filling in (one, other, one.summed(other))], [True, True, False])


class Shares(Case):

    def test_whole(self):
        for plan, sizes in ((TWINS, (2, 3)), (RING, (1, 2, 1)), (POINT, (4,)), (BARE, (1, 6)), (FULL, (1, 2, 1, 0, 3, 1)), (Plan.twins(9), (6, 6)), (FULL, (6,) * 6)):
            power = sum([sizes[i] * sizes[j] for i, j in plan.arrows])
            told = Quotient(Poly((1,)))
            for size in sizes:
                told = told.over(turn_count(size))
            for _ in range(power // 100):
                told = told.times(power_of_q(100))
            self.assertEqual(whole_share(plan, sizes), told.times(power_of_q(power % 100)))

    def counts(self, plan, weight, prime, sizes):
        """How many fillings have each type."""
        found = {}
        for filling in all_fillings(plan, prime, sizes):
            told = type_of_filling(filling, weight)
            found[told] = found.get(told, 0) + 1
        return found

    def test_by_all_fillings(self):
        for plan, weight, prime, sizes in COUNTED:
            counts, turns = self.counts(plan, weight, prime, sizes), turns_number(prime, sizes)
            for told in falling(plan, weight, sizes):
                top, bottom = type_share(plan, weight, told).at(prime)
                self.assertEqual(top * turns, bottom * counts.get(told, 0))
            top, bottom = steady_share(plan, weight, sizes).at(prime)
            self.assertEqual(top * turns, bottom * counts.get((sizes,), 0))
            top, bottom = whole_share(plan, sizes).at(prime)
            self.assertEqual(top * turns, bottom * sum(counts.values()))

    def test_added_up(self):
        """The shares of all types add up to the share of all."""
        for plan, weight, sizes in weighted(5, 1) + [(RING, (1, 0, 3), (1, 2, 1)), (BOTH_WAYS, (2, 1), (2, 3))]:
            total = Quotient(0)
            for told in falling(plan, weight, sizes):
                if len(told) <= 6:
                    total = total.plus(type_share(plan, weight, told))
            self.assertEqual(total, whole_share(plan, sizes))

    def test_by_the_sum(self):
        """The sum of [15.5], by all rows of sizes."""
        for plan, weight, sizes in weighted(6, 1):
            if sum(sizes) > 4:
                continue
            total = Quotient(0)
            for rows in self.all_rows_of_sizes(sizes):
                sums = [tuple([sum(numbers) for numbers in zip(*rows[:many])]) for many in range(1, len(rows))]
                if all([is_greater(mean(weight, row), mean(weight, sizes)) for row in sums]):
                    part, power = Quotient((-1) ** (len(rows) - 1)), 0
                    for at, row in enumerate(rows):
                        part = part.times(whole_share(plan, row))
                        power += sum([plan.form(row, other) for other in rows[:at]])
                    total = total.plus(part.times(power_of_q(-power)))
            self.assertEqual(steady_share(plan, weight, sizes), total)

    def all_rows_of_sizes(self, sizes):
        if not any(sizes):
            return [()]
        return [(row,) + rest for row in all_rows(*sizes) if any(row) for rest in self.all_rows_of_sizes(tuple([a - b for a, b in zip(sizes, row)]))]

    def test_products(self):
        for plan, weight, sizes in weighted(7, 1):
            for told in falling(plan, weight, sizes)[:20]:
                product, power = Quotient(1), 0
                for at, row in enumerate(told):
                    product = product.times(steady_share(plan, weight, row))
                    power += sum([plan.form(row, other) for other in told[:at]])
                self.assertEqual(type_share(plan, weight, told), product.times(power_of_q(-power)))

    def test_steady_exist(self):
        """There are steady fillings just if their share is not 0."""
        for plan, weight, sizes in weighted(8):
            self.assertIs(has_steady(plan, weight, sizes), steady_share(plan, weight, sizes) != Quotient(0))

    def test_without_equal_means(self):
        """Here the share, multiplied by q - 1, is a polynomial that reads the same from both ends."""
        met = 0
        for plan, weight, sizes in weighted(9):
            if [row for row in all_rows(*sizes) if any(row) and row != sizes and row and not is_greater(mean(weight, row), mean(weight, sizes)) and not is_greater(mean(weight, sizes), mean(weight, row))]:
                continue
            found = steady_share(plan, weight, sizes).times(Poly((-1, 1)))
            self.assertIs(found.is_whole, True)
            row = found.top.coefficients
            self.assertEqual(row, row[::-1])
            self.assertTrue(all([number >= 0 for number in row]))
            if row:
                met += len(row) > 1
                self.assertEqual(found.top.degree, 1 - plan.norm(sizes))
                self.assertIs(has_hard(plan, weight, sizes), True)
        self.assertGreater(met, 10)

    def test_bound_of_rows(self):
        line = Plan.line(3)
        for call in (lambda sizes: steady_share(line, (1, 2, 3), sizes), lambda sizes: type_share(line, (1, 2, 3), (sizes,)), lambda sizes: types_of(line, (1, 2, 3), sizes)):
            call((3, 4, 4))
            self.refuses(TooMany, call, (6, 4, 2), limit=100)
        self.refuses(TooMany, steady_share, FULL, (0,) * 6, (6,) * 6, limit=100)
        self.refuses(TooMany, types_of, line, (1, 2, 3), (5, 5, 5), limit=14)
        self.refuses(TooMany, types_of, Plan.line(6), (0,) * 6, (2, 2, 2, 2, 1, 1), limit=300)
        self.refuses(TooMany, types_of, Plan.line(6), (0,) * 6, (2, 2, 2, 1, 1, 1), limit=100)
        whole_share(line, (6, 6, 6))
        type_share(line, (3, 2, 1), ((3, 0, 0), (0, 4, 0), (0, 0, 4)))
        self.refuses(TooMany, type_share, line, (3, 2, 1), ((6, 0, 0), (0, 4, 0), (0, 0, 2)), limit=100)


class Types(Case):

    def test_listed(self):
        for plan, weight, sizes in weighted(10, 2):
            found = types_of(plan, weight, sizes)
            self.assertIs(type(found), tuple)
            self.assertEqual(found, tuple(sorted([told for told in falling(plan, weight, sizes) if all([has_steady(plan, weight, row) for row in told])])))
            self.assertIs((sizes,) in found, has_steady(plan, weight, sizes))

    def test_by_shares(self):
        for plan, weight, sizes in weighted(11, 1):
            shares = {told: type_share(plan, weight, told) for told in falling(plan, weight, sizes)}
            self.assertEqual(list(types_of(plan, weight, sizes)), [told for told in sorted(shares) if shares[told] != Quotient(0)])

    def test_by_all_fillings(self):
        for plan, weight, prime, sizes in COUNTED:
            if not plan.has_ring:
                met = {type_of_filling(filling, weight) for filling in all_fillings(plan, prime, sizes)}
                self.assertLessEqual(met, set(types_of(plan, weight, sizes)))
        for plan, weight, sizes in ((LINE, (3, 2, 1), (2, 1, 2)), (LINE, (-1, 5, 2), (1, 2, 1)), (TWINS, (0, 1), (2, 1)), (TWINS, (1, 0), (1, 1)), (THRICE, (0, 1), (1, 2))):
            met = {type_of_filling(filling, weight) for filling in all_fillings(plan, 2, sizes)}
            self.assertEqual(tuple(sorted(met)), types_of(plan, weight, sizes))

    def test_of_fillings(self):
        source, tried = random.Random(12), 0
        for filling in some_fillings(12, 200, most=2, total=5):
            if filling.total == 0 or filling.prime ** filling.total > 300:
                continue
            tried += 1
            weight = some_weight(source, filling.plan)
            found = type_of_filling(filling, weight)
            self.assertEqual(found, type_by_quotients(filling, weight))
            self.assertIs(is_steady_filling(filling, weight), found == (filling.sizes,))
            own = mean(weight, filling.sizes)
            rows = [sizes_of(lot) for lot in all_subs(filling)]
            self.assertIs(is_hard_filling(filling, weight), all([is_greater(own, mean(weight, row)) for row in rows if any(row) and row != filling.sizes]))
            other = filling.changed(some_turns(source, filling))
            self.assertEqual(type_of_filling(other, weight), found)
        self.assertGreater(tried, 60)

    def test_turned_over(self):
        """Means fall the other way for the filling turned over, with the weight's signs changed."""
        source = random.Random(13)
        for filling in some_fillings(13, 100, most=2, total=4):
            if 0 < filling.total and filling.prime ** filling.total <= 2000:
                weight = some_weight(source, filling.plan)
                told = type_of_filling(filling.turned_over(), tuple([-number for number in weight]))
                self.assertEqual(told, type_of_filling(filling, weight)[::-1])

    def test_sums(self):
        """The type of a sum has the sizes of both types, by their means."""
        source, tried = random.Random(14), 0
        for one in some_fillings(14, 60, most=1, total=3):
            other = some_filling(source, one.plan, one.prime, tuple([source.randint(0, 1) for _ in range(one.plan.size)]))
            if one.prime > 3 or one.total == 0 or other.total == 0 or one.total + other.total > 5:
                continue
            tried += 1
            weight, by_means = some_weight(source, one.plan), {}
            for row in type_of_filling(one, weight) + type_of_filling(other, weight):
                key = mean_of(one.plan, weight, row)
                by_means[key] = tuple([a + b for a, b in zip(row, by_means.get(key, (0,) * len(row)))])
            ordered = []
            while by_means:
                best = [key for key in by_means if not any([is_greater(other_key, key) for other_key in by_means])][0]
                ordered.append(by_means.pop(best))
            self.assertEqual(type_of_filling(one.summed(other), weight), tuple(ordered))
        self.assertGreater(tried, 10)

    def test_subs_are_steady(self):
        filling = Filling(TWINS, 2, (2, 1), (Table(2, 1, 2, ((1, 0),)), zero_table(2, 1, 2)))
        self.assertEqual(type_of_filling(filling, (0, 1)), ((0, 1), (2, 0)))
        self.assertEqual(type_of_filling(filling, (1, 0)), ((1, 0), (1, 1)))
        self.assertIs(is_steady_filling(sub_filling(filling, (((0, 1),), ())), (1, 0)), True)

    def test_hard_over_larger_fields(self):
        """A hard filling over 2 that is not so over a larger field: it splits there."""
        turn = Table(2, 2, 2, ((0, 1), (1, 1)))
        filling = Filling(TWINS, 2, (2, 2), (idle_table(2, 2), turn))
        self.assertIs(is_hard_filling(filling, (1, 0)), True)
        self.assertIs(has_hard(TWINS, (1, 0), (2, 2)), False)

    def test_bound_of_spaces(self):
        """Three spaces of the height 3 over 2 have sixteen subspaces each: just 4096 rows."""
        plan = Plan(6, ((0, 1), (1, 2)))
        self.assertEqual(type_of_filling(Filling.zero(plan, 2, (3, 3, 3, 0, 0, 0)), (1, 2, 3, 0, 0, 0)), ((0, 0, 3, 0, 0, 0), (0, 3, 0, 0, 0, 0), (3, 0, 0, 0, 0, 0)))
        for call in (type_of_filling, is_steady_filling, is_hard_filling):
            call(Filling.zero(POINT, 2, (6,)), (1,))
            for plan_now, prime, sizes in ((plan, 2, (3, 3, 3, 1, 0, 0)), (TWINS, 2, (4, 4)), (POINT, 3, (6,)), (FULL, 7, (6,) * 6), (POINT, 7, (5,))):
                self.refuses(TooMany, call, Filling.zero(plan_now, prime, sizes), (0,) * plan_now.size, limit=4096)


class Errors(Case):

    def test_plans_weights_sizes(self):
        calls = (mean_of, has_steady, has_hard, barring_row, steady_share, types_of, lambda plan, weight, sizes: is_barring_row(plan, weight, sizes, None))
        for call in calls:
            self.all_refused(InvalidPlan, lambda value: call(value, (1, 1), (1, 1)), NO_PLANS)
            self.all_refused(InvalidWeight, lambda value: call(TWINS, value, (1, 1)), NO_WEIGHTS)
            self.all_refused(InvalidSizes, lambda value: call(TWINS, (1, 1), value), NO_SIZES + ZEROS)
            self.refuses(InvalidPlan, call, None, None, None)
            self.refuses(InvalidWeight, call, TWINS, None, None)
            call(TWINS, (SIXTY, -SIXTY), (1, 1))

    def test_told_with_then(self):
        calls = (has_steady, has_hard, barring_row, types_of, lambda plan, weight, sizes: is_barring_row(plan, weight, sizes, None))
        for call in calls:
            self.refuses(Refused, call, RING, (1, 1, 1), (1, 1, 1), reason=("ring",))
            self.refuses(Refused, call, RING, (1, 1, 1), (6, 6, 6), reason=("ring",))
            self.refuses(InvalidSizes, call, RING, (1, 1, 1), (0, 0, 0))
            self.refuses(InvalidWeight, call, RING, (1, 1), (7, 0, 0))
            self.refuses(TooMany, call, LINE, (1, 1, 1), (5, 5, 5), limit=14)
            self.refuses(TooMany, call, Plan.line(6), (1,) * 6, (6,) * 6, limit=14)
            self.refuses(TooMany, call, Plan.line(6), (1,) * 6, (2, 2, 2, 2, 1, 1), limit=300)
        for call in (has_steady, has_hard, barring_row):
            call(LINE, (1, 2, 3), (5, 5, 4))
            call(Plan.line(4), (1, 2, 3, 4), (4, 4, 3, 2))

    def test_whole_share(self):
        self.all_refused(InvalidPlan, lambda value: whole_share(value, (1, 1)), NO_PLANS)
        self.all_refused(InvalidSizes, lambda value: whole_share(TWINS, value), NO_SIZES + ZEROS)
        self.refuses(InvalidPlan, whole_share, None, None)

    def test_type_share(self):
        right = ((0, 1), (1, 0))
        type_share(TWINS, (0, 1), right)
        self.all_refused(InvalidPlan, lambda value: type_share(value, (0, 1), right), NO_PLANS)
        self.all_refused(InvalidWeight, lambda value: type_share(TWINS, value, right), NO_WEIGHTS)
        wrong = NO_TUPLES + NO_INTEGERS + (
            (), ((1, 0), (0, 1)), ((0, 1), (1, 0), (0, 0)), ((0, 0),), [(0, 1), (1, 0)], ([0, 1], (1, 0)), ((0, True), (1, 0)), ((0, 1), (0, 1)), ((0, 1), (1,)), (0, 1), ((0, 6), (1, 1)), ((0, 7),), ((0, 1), None), ((1, 1), (1, 1)))
        self.all_refused(InvalidSizes, lambda value: type_share(TWINS, (0, 1), value), wrong)
        # Six sizes at the most.
        six = tuple([tuple([int(at == point) for at in range(6)]) for point in range(6)])
        self.assertEqual(type_share(Plan(6, ()), (6, 5, 4, 3, 2, 1), six), whole_share(Plan(6, ()), (1,) * 6))
        self.refuses(InvalidSizes, type_share, Plan(6, ()), (12, 10, 8, 6, 4, 2), six[:1] + ((1, 1, 0, 0, 0, 0),) + six[1:])
        self.refuses(InvalidSizes, type_share, TWINS, (1, 0), ((4, 0), (3, 1)))

    def test_fillings(self):
        for call in (type_of_filling, is_steady_filling, is_hard_filling):
            self.all_refused(InvalidFilling, lambda value: call(value, (1, 1)), NO_FILLINGS)
            self.all_refused(InvalidWeight, lambda value: call(EYE, value), NO_WEIGHTS)
            self.refuses(InvalidFilling, call, None, None)
            self.refuses(InvalidWeight, call, Filling.zero(FULL, 7, (6,) * 6), (1,))
            self.refuses(InvalidOperation, call, Filling.zero(TWINS, 2, (0, 0)), (1, 1))
            call(EYE, (SIXTY, -SIXTY))


if __name__ == "__main__":
    unittest.main()
