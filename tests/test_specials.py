"""[17.1] to [17.7] and what stands there: two arrows, and lines through a plane."""

import itertools
import random
import unittest

from arrowsizes.chart.plans import Plan
from arrowsizes.counted.counts import firm_poly
from arrowsizes.errors import InvalidCount, InvalidFilling, InvalidOperation, InvalidPrime, InvalidSizes
from arrowsizes.fill.fillings import Filling
from arrowsizes.fixed.kinds import all_kinds, kinds_number
from arrowsizes.grid.tables import Table, idle_table, zero_table
from arrowsizes.poly.polys import Poly, gauss
from arrowsizes.special import specials as module
from arrowsizes.special.specials import (
    is_label, is_line_pattern, line_pattern, lines_kinds, lines_of_pattern, lines_poly, places, two_filling, two_kind,
    two_of_kind, two_poly)
from arrowsizes.split.splits import are_alike, field_degree, is_firm, is_unsplittable, part_sizes, parts_of
from tests.helpers import Case, NO_INTEGERS, NO_TUPLES, OTHERS, SIXTY, SIXTY_ONE, all_rows
from tests.some_fillings import BARE, all_fillings, some_filling, some_turns, table_at_random
from tests.test_fillings import EYE, NO_FILLINGS
from tests.test_plans import POINT, STAR, THRICE, TWINS
from tests.test_tables import NO_PRIMES, PRIMES

# Places of the degrees 5 and 6, and what is none.
HIGH = {2: ((1, 0, 1, 0, 0, 1), (1, 1, 0, 0, 0, 0, 1)), 3: ((1, 2, 0, 0, 0, 1),), 5: ((1, 4, 0, 0, 0, 1),), 7: ((4, 1, 0, 0, 0, 1),)}
NO_LABELS = NO_TUPLES + OTHERS + (
    ("more",), ("more", -1), ("more", 6), ("less", 6), ("more", True), ("less", False), ("more", None), ("more", "0"), ("More", 0), (None, 0), (0, 0), ("more", 0, 0), ["more", 0], ("place", ()), ("place", (), 0), ("place", (), 7),
    ("place", (), True), ("place", (0, 1), 7), ("place", (1, 1, 1), 4), ("place", (1, 0, 1), 1), ("place", (1, 1), None), ("place", [1, 1], 1), ("place", (True, 1), 1), ("place", (1, True), 1), ("place", (1, 0), 1), ("place", (1,), 1), ("place", (2, 1), 1),
    ("place", (-1, 1), 1), ("place", (1, 1, 0, 1), 3), ("place", None, 1), ("place", (1, 1), 1, 1), ("", 0), (("more",), 0), ("place", (1, 0, 0, 0, 0, 0, 0, 1), 1), ("place", 1, 1), ("place", "", 1), ("place", ((1, 1),), 1), ("less", SIXTY), ("place", (), SIXTY_ONE))
RIGHT = (("more", 0), ("more", 5), ("less", 0), ("less", 5), ("place", (), 1), ("place", (), 6), ("place", (0, 1), 6), ("place", (1, 1), 2), ("place", (1, 1, 1), 3), ("place", (1, 1, 0, 1), 2), ("place", (1, 1, 0, 0, 1), 1),
         ("place", (1, 0, 1, 0, 0, 1), 1), ("place", (1, 1, 0, 0, 0, 0, 1), 1))


def product(prime, one, other):
    found = [0] * (len(one) + len(other) - 1)
    for a, left in enumerate(one):
        for b, right in enumerate(other):
            found[a + b] = (found[a + b] + left * right) % prime
    return tuple(found)


def monic(prime, degree):
    return [row + (1,) for row in itertools.product(range(prime), repeat=degree)]


def labels_of(prime, most):
    """All labels whose sizes are at most these, with the sizes."""
    found = []
    for k in range(6):
        found += [(("more", k), (k + 1, k)), (("less", k), (k, k + 1))]
    for degree in range(1, most + 1):
        options = places(prime, degree) if degree <= 4 else ()
        found += [(("place", place, many), (degree * many,) * 2) for place in options for many in range(1, most // degree + 1)]
    return [(label, sizes) for label, sizes in found if max(sizes) <= most]


def all_kinds_told(prime, sizes):
    """All kinds with some sizes, as dicts from labels."""
    lots = [({}, (0, 0))]
    for label, own in labels_of(prime, max(sizes)):
        longer = []
        for told, total in lots:
            many = 0
            while all([total[at] + many * own[at] <= sizes[at] for at in (0, 1)]):
                longer.append(({**told, label: many} if many else told, tuple([total[at] + many * own[at] for at in (0, 1)])))
                many += 1
        lots = longer
    return [told for told, total in lots if total == sizes]


class Places(Case):

    def test_by_products(self):
        for prime, most in ((2, 4), (3, 4), (5, 3), (7, 3)):
            for degree in range(1, most + 1):
                made = {product(prime, one, other) for low in range(1, degree) for one in monic(prime, low) for other in monic(prime, degree - low)}
                told = [row for row in monic(prime, degree) if row not in made]
                self.assertEqual(places(prime, degree), tuple(([()] if degree == 1 else []) + told))

    def test_numbers(self):
        for prime in PRIMES:
            p = prime
            told = [p + 1, (p * p - p) // 2, (p ** 3 - p) // 3, (p ** 4 - p * p) // 4]
            self.assertEqual([len(places(prime, degree)) for degree in range(1, 5)], told)
            for degree in range(1, 5):
                found = places(prime, degree)
                self.assertEqual(found, tuple(sorted(found)))

    def test_errors(self):
        self.assertEqual((module.MAX_PLACE, module.MAX_ARMS), (4, 5))
        self.all_refused(InvalidPrime, lambda value: places(value, 1), NO_PRIMES)
        self.not_counts(lambda value: places(2, value), 1, 4)
        self.refuses(InvalidPrime, places, 4, 0)


class Labels(Case):

    def test_judged(self):
        for label in RIGHT:
            self.assertIs(is_label(2, label), True)
        for value in NO_LABELS:
            self.assertIs(is_label(2, value), False)
        for prime, rows in HIGH.items():
            for row in rows:
                self.assertIs(is_label(prime, ("place", row, 1)), True)
                self.assertIs(is_label(prime, ("place", row, 2)), False)
        self.assertIs(is_label(3, ("place", (1, 0, 1), 3)), True)
        self.assertIs(is_label(5, ("place", (1, 0, 1), 1)), False)
        self.assertIs(is_label(3, ("place", (2, 1), 6)), True)
        self.all_refused(InvalidPrime, lambda value: is_label(value, ("more", 0)), NO_PRIMES)

    def test_high_degrees_by_products(self):
        """Places of the degrees 5 and 6 over 2, and of 5 over 3."""
        for prime, degree in ((2, 5), (2, 6), (3, 5)):
            made = {product(prime, one, other) for low in range(1, degree // 2 + 1) for one in monic(prime, low) for other in monic(prime, degree - low)}
            for row in monic(prime, degree):
                self.assertIs(is_label(prime, ("place", row, 1)), row not in made)

    def test_tables(self):
        """The tables, entry by entry as [17.2] tells them."""
        for prime in PRIMES:
            for k in range(6):
                more, less = two_filling(prime, ("more", k)), two_filling(prime, ("less", k))
                self.assertEqual((more.sizes, less.sizes), ((k + 1, k), (k, k + 1)))
                self.assertEqual([table.rows for table in more.tables], [tuple([tuple([int(b == a + shift) for b in range(k + 1)]) for a in range(k)]) for shift in (0, 1)])
                self.assertEqual([table.rows for table in less.tables], [tuple([tuple([int(a == b + shift) for b in range(k)]) for a in range(k + 1)]) for shift in (0, 1)])
            for place in places(prime, 1) + places(prime, 2)[:3] + places(prime, 3)[:2] + HIGH[prime]:
                degree = len(place) - 1 if place else 1
                for many in range(1, 6 // degree + 1):
                    filling, size = two_filling(prime, ("place", place, many)), degree * many
                    power = (1,)
                    for _ in range(many):
                        power = product(prime, power, place)
                    last = [0] * size if not place else [-number % prime for number in power[:-1]]
                    rows = tuple([tuple([last[a] if b == size - 1 else int(a == b + 1) for b in range(size)]) for a in range(size)])
                    told = [rows, idle_table(prime, size).rows]
                    self.assertEqual((filling.plan, filling.prime, filling.sizes), (TWINS, prime, (size, size)))
                    self.assertEqual([table.rows for table in filling.tables], told if not place else told[::-1])

    def test_unsplittable(self):
        for prime in PRIMES:
            for label, sizes in labels_of(prime, 3 if prime > 2 else 4):
                filling = two_filling(prime, label)
                degree = len(label[1]) - 1 if label[0] == "place" and label[1] else 1
                self.assertEqual((filling.sizes, field_degree(filling)), (sizes, degree))

    def test_errors(self):
        self.all_refused(InvalidPrime, lambda value: two_filling(value, ("more", 0)), NO_PRIMES)
        self.all_refused(InvalidOperation, lambda value: two_filling(2, value), NO_LABELS)
        self.refuses(InvalidPrime, two_filling, 4, None)


class Kinds(Case):

    def test_single_labels(self):
        source = random.Random(1)
        for prime in PRIMES:
            labels = labels_of(prime, 6)
            for label, _ in source.sample(labels, 25) + [(("place", row, 1), None) for row in HIGH[prime]] + [(("place", (), many), None) for many in range(1, 7)]:
                filling = two_filling(prime, label)
                self.assertEqual(two_kind(filling), {label: 1})
                self.assertEqual(two_kind(filling.changed(some_turns(source, filling))), {label: 1})

    def test_behind_turns(self):
        source = random.Random(2)
        for _ in range(60):
            prime, kind, total = source.choice(PRIMES), {}, (0, 0)
            labels = labels_of(prime, 4)
            for _ in range(4):
                label, sizes = source.choice(labels)
                if max(total[0] + sizes[0], total[1] + sizes[1]) <= 6:
                    total = (total[0] + sizes[0], total[1] + sizes[1])
                    kind[label] = kind.get(label, 0) + 1
            filling = two_of_kind(prime, kind)
            self.assertEqual((filling.sizes, filling.plan, filling.prime), (total, TWINS, prime))
            found = two_kind(filling.changed(some_turns(source, filling)))
            self.assertEqual(found, kind)
            self.assertEqual(list(found), sorted(kind))
            self.assertIs(type(found), dict)

    def test_sums_ascending(self):
        kind = {("place", (0, 1), 1): 2, ("more", 1): 1, ("less", 0): 1, ("place", (), 1): 1}
        told = Filling.zero(TWINS, 3, (0, 0))
        for label in sorted(kind):
            for _ in range(kind[label]):
                told = told.summed(two_filling(3, label))
        self.assertEqual(two_of_kind(3, kind), told)
        self.assertEqual(two_of_kind(3, {}), Filling.zero(TWINS, 3, (0, 0)))
        self.assertEqual(two_kind(Filling.zero(TWINS, 3, (0, 0))), {})
        self.assertEqual(two_kind(Filling.zero(TWINS, 7, (6, 6))), {("less", 0): 6, ("more", 0): 6})

    def test_of_fillings(self):
        source = random.Random(3)
        for _ in range(60):
            prime, sizes = source.choice(PRIMES), (source.randint(0, 5), source.randint(0, 5))
            filling = some_filling(source, TWINS, prime, sizes)
            kind = two_kind(filling)
            self.assertIs(are_alike(two_of_kind(prime, kind), filling), True)
            self.assertEqual(sum(kind.values()), len(parts_of(filling)))

    def test_all_kinds(self):
        for prime, most in ((2, (2, 3)), (3, (1, 3)), (3, (3, 1)), (2, (3, 2)), (5, (1, 2))):
            for sizes in all_rows(*most):
                kinds = [tuple(sorted(two_kind(filling).items())) for filling in all_kinds(TWINS, sizes, prime)]
                self.assertEqual(sorted(kinds), sorted([tuple(sorted(told.items())) for told in all_kinds_told(prime, sizes)]))
                if prime == 2:
                    self.assertEqual(len(kinds), kinds_number(TWINS, sizes, prime))

    def test_unlike_labels(self):
        """No two of the labels tell alike fillings."""
        fillings = [two_filling(2, label) for label, _ in labels_of(2, 4)]
        for at, one in enumerate(fillings):
            for other in fillings[:at]:
                self.assertIs(one.sizes == other.sizes and are_alike(one, other), False)

    def test_not_true_of_ranks(self):
        """Equal ranks of both tables and of all their sums with factors, and unlike kinds."""
        one, other = [two_filling(3, ("place", place, 1)) for place in places(3, 2)[:2]]
        for a, b in itertools.product(range(3), repeat=2):
            ranks = [filling.tables[0].scaled(a).plus(filling.tables[1].scaled(b)).rank for filling in (one, other)]
            self.assertEqual(ranks[0], ranks[1])
        self.assertNotEqual(two_kind(one), two_kind(other))

    def test_errors(self):
        self.all_refused(InvalidFilling, two_kind, NO_FILLINGS + (EYE, Filling.zero(THRICE, 2, (1, 1)), Filling.zero(TWINS.opposite(), 2, (1, 1)), Filling.zero(BARE, 2, (0, 0))))
        self.all_refused(InvalidPrime, lambda value: two_of_kind(value, {}), NO_PRIMES)
        wrong = tuple([value for value in OTHERS if value != {}]) + (
            {("more", 0): 0}, {("more", 0): True}, {("more", 0): -1}, {("more", 0): 7}, {("more", True): 1}, {("more", 6): 1}, {("place", (1, 1, 1), 2): 2}, {("more", 5): 1, ("less", 0): 2}, {("more", 0): 4, ("more", 1): 2},
            {("more", 0): None}, {("place", (), 1): SIXTY}, {("place", (), 1): SIXTY_ONE}, {("place", (2, 1), 1): 1}, (("more", 0), 1), [("more", 0)], {"more": 1}, {None: 1}, {("more", 0): 1, "a": 1})
        self.all_refused(InvalidOperation, lambda value: two_of_kind(2, value), wrong)
        self.refuses(InvalidPrime, two_of_kind, 4, None)
        two_of_kind(2, {("more", 5): 1, ("less", 0): 1})
        two_of_kind(2, {("place", (), 1): 6})

    def test_poly(self):
        for sizes in all_rows(3, 3):
            if any(sizes):
                self.assertEqual(two_poly(sizes), firm_poly(TWINS, sizes))
        for sizes, told in (((6, 6), (1, 1)), ((6, 5), (1,)), ((5, 6), (1,)), ((0, 1), (1,)), ((0, 2), ()), ((6, 0), ()), ((4, 6), ())):
            self.assertEqual(two_poly(sizes), Poly(told))
        self.all_refused(InvalidSizes, two_poly, NO_TUPLES + ((), (1,), (0, 0), (1, 7), (-1, 1), (True, 1), [1, 1], (1, 1, 1), (1, None), (False, False), ((1, 1),), (SIXTY_ONE, 1)))

    def test_lines_of_arrows(self):
        """[17.4]: so many arrows and the sizes (1, k)."""
        for many in range(1, 6):
            for k in range(1, 5):
                self.assertEqual(firm_poly(Plan.twins(many), (1, k)), gauss(many, k))


def star_filling(prime, columns):
    return Filling(Plan.star(len(columns)), prime, (2,) + (1,) * len(columns), tuple([Table(prime, 2, 1, ((x,), (y,))) for x, y in columns]))


def all_patterns(prime, arms):
    found = []
    for numbers in itertools.product([None] + list(range(arms)), repeat=arms):
        order = [number for at, number in enumerate(numbers) if number is not None and number not in numbers[:at]]
        if order == list(range(len(order))):
            found += [(numbers, crosses) for crosses in itertools.permutations(range(2, prime), max(len(order) - 3, 0))]
    return found


class Lines(Case):

    def test_patterns_back(self):
        for prime in PRIMES:
            for arms in range(1, 6):
                patterns = all_patterns(prime, arms)
                self.assertEqual(lines_kinds(prime, arms), len(patterns))
                for pattern in patterns:
                    self.assertIs(is_line_pattern(prime, arms, pattern), True)
                    filling = lines_of_pattern(prime, arms, pattern)
                    self.assertEqual((filling.plan, filling.prime, filling.sizes), (Plan.star(arms), prime, (2,) + (1,) * arms))
                    self.assertEqual(line_pattern(filling), pattern)

    def test_columns(self):
        for prime, arms in ((2, 4), (5, 5), (7, 5)):
            for pattern in all_patterns(prime, arms):
                columns = {0: (1, 0), 1: (0, 1), 2: (1, 1), None: (0, 0)}
                columns.update({3 + at: (1, cross) for at, cross in enumerate(pattern[1])})
                self.assertEqual(lines_of_pattern(prime, arms, pattern), star_filling(prime, [columns[number] for number in pattern[0]]))

    def test_behind_turns(self):
        source = random.Random(4)
        for _ in range(150):
            prime, arms = source.choice(PRIMES), source.randint(1, 5)
            filling = star_filling(prime, [(source.randrange(prime), source.randrange(prime)) for _ in range(arms)])
            pattern = line_pattern(filling)
            self.assertIs(is_line_pattern(prime, arms, pattern), True)
            self.assertEqual(line_pattern(filling.changed(some_turns(source, filling))), pattern)
            self.assertIs(are_alike(lines_of_pattern(prime, arms, pattern), filling), True)

    def test_kinds_and_patterns(self):
        """Two fillings are alike just if their patterns are equal."""
        for prime, arms in ((2, 3), (2, 4), (3, 3), (5, 2), (3, 2), (7, 1)):
            patterns = {line_pattern(filling) for filling in all_fillings(Plan.star(arms), prime, (2,) + (1,) * arms)}
            self.assertEqual(len(patterns), lines_kinds(prime, arms))
            self.assertEqual(lines_kinds(prime, arms), kinds_number(Plan.star(arms), (2,) + (1,) * arms, prime))

    def test_unsplittable(self):
        for prime, arms in ((2, 4), (3, 4), (5, 4), (7, 3), (2, 5)):
            firm = 0
            for pattern in all_patterns(prime, arms):
                filling = lines_of_pattern(prime, arms, pattern)
                told = None not in pattern[0] and max(pattern[0]) >= 2
                self.assertIs(is_unsplittable(filling), told)
                self.assertIs(is_firm(filling), told)
                firm += told
            self.assertEqual(lines_poly(arms).at(prime), firm)

    def test_poly(self):
        for arms in range(1, 6):
            self.assertIsInstance(lines_poly(arms), Poly)
            self.assertEqual(lines_poly(arms), firm_poly(Plan.star(arms), (2,) + (1,) * arms))
            for q in (2, 3, 4, 9):
                self.assertEqual(lines_poly(arms).at(q) * q * (q - 1), (q + 1) ** (arms - 1) - 1 - (2 ** (arms - 1) - 1) * q)

    def test_wrong_patterns(self):
        right = ((0, 1, 2, 3), (4,))
        self.assertIs(is_line_pattern(5, 4, right), True)
        wrong = NO_TUPLES + OTHERS + (
            ((0, 1, 2, 3), ()), ((0, 1, 2, 3), (1,)), ((0, 1, 2, 3), (5,)), ((0, 1, 2, 3), (4, 3)), ((0, 1, 2, 3), [4]), ([0, 1, 2, 3], (4,)), [(0, 1, 2, 3), (4,)], ((0, 1, 2, 3),), ((0, 1, 2, 3), (4,), ()), ((0, 2, 1, 3), (4,)), ((0, 1, 2, 4), (4,)),
            ((1, 0, 2, 3), (4,)), ((0, 1, 2), ()), ((0, 1, 2, 3, 0), (4,)), ((0, True, 2, 3), (4,)), ((False, 1, 2, 3), (4,)), ((0, 1, 2, 2), (4,)), ((None, 1, 2, 3), (4,)), ((0, 1, 2, "3"), (4,)), ((0, 1, 2, 3), (True,)), ((0, 1, 2, 3), None),
            ((0, 1, -1, 2), ()), (None, ()), ((0, 1, 2, 3), (SIXTY_ONE,)), ((0, 1, 2, SIXTY_ONE), (4,)))
        for value in wrong:
            self.assertIs(is_line_pattern(5, 4, value), False)
        self.all_refused(InvalidOperation, lambda value: lines_of_pattern(5, 4, value), wrong)
        self.assertIs(is_line_pattern(5, 5, ((0, 1, 2, 3, 4), (3, 3))), False)
        self.assertIs(is_line_pattern(5, 5, ((0, 1, 2, 3, 4), (3, 2))), True)
        self.assertIs(is_line_pattern(3, 5, ((0, 1, 2, 3, 4), (2, 2))), False)
        self.assertIs(is_line_pattern(2, 4, ((0, 1, 2, 3), (2,))), False)
        self.assertIs(is_line_pattern(2, 1, ((None,), ())), True)

    def test_errors(self):
        wrong = [Filling.zero(plan, 2, sizes) for plan, sizes in (
            (STAR, (1, 1, 1, 1)), (STAR, (2, 1, 1, 2)), (STAR, (2, 1, 0, 1)), (STAR.opposite(), (2, 1, 1, 1)), (POINT, (2,)), (Plan(4, ((2, 0), (1, 0), (3, 0))), (2, 1, 1, 1)), (Plan.line(2), (2, 1)), (BARE, (2, 1)), (Plan(2, ((1, 0), (1, 0))), (2, 1)))]
        self.all_refused(InvalidFilling, line_pattern, NO_FILLINGS + tuple(wrong))
        self.assertEqual(line_pattern(Filling.zero(Plan(2, ((1, 0),)), 2, (2, 1))), ((None,), ()))
        self.assertEqual(line_pattern(Filling.zero(Plan.star(5), 2, (2, 1, 1, 1, 1, 1))), ((None,) * 5, ()))
        none = ((None,), ())
        for call in (lambda prime, arms: is_line_pattern(prime, arms, none), lambda prime, arms: lines_of_pattern(prime, arms, (((None,) * arms) if arms in (1, 5) else None, ())), lines_kinds):
            self.all_refused(InvalidPrime, lambda value: call(value, 1), NO_PRIMES)
            self.not_counts(lambda value: call(2, value), 1, 5)
            self.refuses(InvalidPrime, call, 4, 0)
        self.not_counts(lines_poly, 1, 5)
        self.refuses(InvalidCount, lines_of_pattern, 2, 6, None)

    def test_not_true_of_four_lines(self):
        one, other = [lines_of_pattern(5, 4, ((0, 1, 2, 3), (cross,))) for cross in (2, 3)]
        self.assertIs(are_alike(one, other), False)

    def test_zero_tables(self):
        self.assertEqual(line_pattern(star_filling(3, [(0, 0), (1, 2), (2, 1), (0, 0), (1, 0)])), ((None, 0, 0, None, 1), ()))
        self.assertEqual(zero_table(3, 2, 1), star_filling(3, [(0, 0)]).tables[0])
        self.assertEqual(len(part_sizes(star_filling(3, [(0, 0)]))), 3)

    def test_tables_at_random(self):
        source = random.Random(5)
        for _ in range(30):
            tables = tuple([table_at_random(source, 7, 2, 1) for _ in range(5)])
            filling = Filling(Plan.star(5), 7, (2, 1, 1, 1, 1, 1), tables)
            numbers, crosses = line_pattern(filling)
            self.assertEqual([number is None for number in numbers], [table.rank == 0 for table in tables])
            self.assertEqual(len(crosses), max(max([number for number in numbers if number is not None], default=-1) - 2, 0))


if __name__ == "__main__":
    unittest.main()
