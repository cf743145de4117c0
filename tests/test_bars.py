"""[16.1] to [16.6] and what stands there: bars."""

import itertools
import random
import unittest

from arrowsizes.chart.plans import Plan
from arrowsizes.errors import (
    InvalidCount, InvalidFilling, InvalidOperation, InvalidParts, InvalidPoint, InvalidPrime, InvalidSizes, TooMany)
from arrowsizes.fill.fillings import Filling, ext_number, hom_number
from arrowsizes.fixed.kinds import all_kinds, keepers_number, orbit_number
from arrowsizes.grid.tables import Table, idle_table, zero_table
from arrowsizes.line import bars as module
from arrowsizes.line.bars import (
    are_below, bar_exts, bar_fillings, bar_homs, bar_row_of, bar_rows, bar_turns, filling_of_bars, greatest_bars,
    is_bar_row, joined_bars, rank_between, ranks_of_bars, sizes_of_bars)
from arrowsizes.mirror.mirrors import root_parts, root_sums
from arrowsizes.poly.polys import Poly, power_of_q, turn_count
from arrowsizes.split.splits import are_alike, is_firm, part_sizes
from tests.helpers import Case, NO_INTEGERS, NO_TUPLES, OTHERS, SIXTY, SIXTY_ONE, all_rows
from tests.some_fillings import BARE, all_fillings, some_filling, some_turns
from tests.test_fillings import EYE, NO_FILLINGS
from tests.test_plans import POINT, STAR, TWINS
from tests.test_tables import NO_PRIMES, PRIMES

SOME = (((0, 0), 1), ((0, 1), 1))
NO_BARS = NO_TUPLES + OTHERS[:7] + (
    (1,), (True,), ((),), ((0, 1),), (((0, 1),),), (((0, 1), 0),), (((0, 1), -1),), (((0, 1), True),), (((0, True), 1),), (((False, 1), 1),), (((1, 0), 1),), (((0, 2), 1),), (((-1, 1), 1),), ([(0, 1), 1],), (([0, 1], 1),),
    [((0, 1), 1)], (((0, 1), 1), ((0, 1), 1)), (((0, 1), 1), ((0, 0), 1)), (((0, 1), 7),), (((0, 0), 3), ((0, 1), 4)), (((0, 1), SIXTY),), (((0, 1), SIXTY_ONE),), (((0, 1), 1, 1),), (((0, 1, 1), 1),), (((0, 1), None),), (((0, 1), 1), None), (("ab", 1),))
SIZES = ((3,), (0,), (2, 3), (3, 3), (0, 2), (2, 2, 2), (1, 3, 2), (2, 0, 2), (1, 2, 2, 1), (1, 1, 1, 1, 1), (1, 1, 2, 1, 1), (1, 1, 1, 1, 1, 1), (0, 0, 0))


def all_bars(size):
    return [(s, t) for s in range(size) for t in range(s, size)]


def joined(rows):
    """The bar row with all bars of some bar rows."""
    found = {}
    for row in rows:
        for bar, many in row:
            found[bar] = found.get(bar, 0) + many
    return tuple([(bar, found[bar]) for bar in sorted(found) if found[bar]])


def rows_by_choice(sizes):
    """All bar rows with some sizes, by all numbers for all bars."""
    found = []
    bars = all_bars(len(sizes))
    for numbers in itertools.product(*[range(min(sizes[s:t + 1]) + 1) for s, t in bars]):
        told = tuple([sum([many for (s, t), many in zip(bars, numbers) if s <= at <= t]) for at in range(len(sizes))])
        if told == sizes:
            found.append(tuple([(bar, many) for bar, many in zip(bars, numbers) if many]))
    return sorted(found)


def filling_of_bar(size, prime, bar):
    """The filling of one bar as [16.1] tells it."""
    sizes = tuple([int(bar[0] <= at <= bar[1]) for at in range(size)])
    tables = [Table(prime, sizes[at + 1], sizes[at], ((1,) * sizes[at],) * sizes[at + 1]) for at in range(size - 1)]
    return Filling(Plan.line(size), prime, sizes, tuple(tables))


def some_rows(seed, many):
    source = random.Random(seed)
    found = []
    for _ in range(many):
        sizes = source.choice(SIZES)
        found.append((len(sizes), source.choice(list(bar_rows(sizes)))))
    return found


def steps_from(size, row):
    """All bar rows to which one step leads."""
    found = []
    numbers = dict(row)
    for one in numbers:
        for other in numbers:
            made = joined_bars(size, one, other)
            if made is not None and (one != other or numbers[one] > 1):
                left = dict(numbers)
                left[one] -= 1
                left[other] -= 1
                found.append(joined([tuple([(bar, many) for bar, many in left.items() if many]), made]))
    return found


class Rows(Case):

    def test_constant(self):
        self.assertEqual(module.MAX_BAR_ROWS, 3000)

    def test_judged(self):
        for size, row in some_rows(1, 60):
            self.assertIs(is_bar_row(size, row), True)
            self.assertIs(is_bar_row(size, list(row)), False)
        self.assertIs(is_bar_row(2, ()), True)
        self.assertIs(is_bar_row(1, (((0, 0), 6),)), True)
        self.assertIs(is_bar_row(1, (((0, 0), 7),)), False)
        self.assertIs(is_bar_row(6, tuple([((0, t), 1) for t in range(6)])), True)
        self.assertIs(is_bar_row(6, tuple([((0, t), 1) for t in range(5)] + [((0, 5), 2)])), False)
        for value in NO_BARS:
            self.assertIs(is_bar_row(2, value), False)
        self.all_refused(InvalidCount, lambda value: is_bar_row(value, ()), NO_INTEGERS + (0, 7, -1))

    def test_sizes_and_ranks(self):
        for size, row in some_rows(2, 80):
            singles = [bar for bar, many in row for _ in range(many)]
            self.assertEqual(sizes_of_bars(size, row), tuple([len([bar for bar in singles if bar[0] <= at <= bar[1]]) for at in range(size)]))
            ranks = ranks_of_bars(size, row)
            self.assertEqual(list(ranks), all_bars(size))
            self.assertEqual(ranks, {(s, t): len([bar for bar in singles if bar[0] <= s and t <= bar[1]]) for s, t in all_bars(size)})
        self.assertEqual(sizes_of_bars(3, ()), (0, 0, 0))
        self.assertEqual(ranks_of_bars(1, ()), {(0, 0): 0})

    def test_all_rows(self):
        for sizes in SIZES:
            found = list(bar_rows(sizes))
            self.assertEqual(found, sorted(found))
            self.assertEqual(len(found), root_sums(Plan.line(len(sizes)), sizes))
            if len(sizes) <= 4:
                self.assertEqual(found, rows_by_choice(sizes))
            for row in found:
                self.assertIs(is_bar_row(len(sizes), row), True)
                self.assertEqual(sizes_of_bars(len(sizes), row), sizes)
        self.assertEqual(list(bar_rows((0, 0))), [()])
        self.assertEqual(list(bar_rows((6,))), [(((0, 0), 6),)])

    def test_bound(self):
        """No row has just 3000 bar rows: these are the nearest numbers on both sides."""
        for sizes, many in (((2, 2, 2, 2, 2, 2), 450), ((6, 6, 6), 84), ((1, 5, 6, 5, 5), 2996)):
            self.assertEqual((self.number_of_rows(sizes), len(list(bar_rows(sizes)))), (many, many))
        self.assertEqual(self.number_of_rows((2, 3, 5, 2, 5, 4)), 3002)
        for sizes in ((2, 3, 5, 2, 5, 4), (6,) * 6, (2, 5, 6, 5, 2), (6, 6, 6, 6, 6)):
            rows = bar_rows(sizes)
            with self.assertRaises(TooMany) as caught:
                next(rows)
            self.assertEqual(caught.exception.limit, 3000)

    def number_of_rows(self, sizes):
        """The number of bar rows, by how many bars go on from each point to the next one, begun at which points."""
        ways = {(): 1}
        for at, size in enumerate(sizes):
            following = {}
            for going, many in ways.items():
                if sum(going) <= size:
                    begun = going + (size - sum(going),)
                    for left in itertools.product(*[range(number + 1) for number in begun]):
                        following[left] = following.get(left, 0) + many
            ways = following
        return sum([many for going, many in ways.items() if not any(going)])

    def test_greatest(self):
        for sizes in SIZES:
            found = greatest_bars(sizes)
            self.assertEqual(sizes_of_bars(len(sizes), found), sizes)
            self.assertEqual(ranks_of_bars(len(sizes), found), {(s, t): min(sizes[s:t + 1]) for s, t in all_bars(len(sizes))})
            for row in bar_rows(sizes):
                self.assertIs(are_below(len(sizes), row, found), True)
                self.assertIs(are_below(len(sizes), found, row), row == found)
        self.assertEqual(greatest_bars((6,) * 6), (((0, 5), 6),))

    def test_errors(self):
        for call in (lambda value: list(bar_rows(value)), greatest_bars):
            self.all_refused(InvalidSizes, call, NO_TUPLES + ((), (7,), (-1,), (True,), (1, None), [1], (1,) * 7, (SIXTY,), (SIXTY_ONE, 1), ((1, 1),)))
        rows = bar_rows(None)
        self.refuses(InvalidSizes, next, rows)
        for call in (sizes_of_bars, ranks_of_bars, bar_turns, bar_fillings):
            self.all_refused(InvalidCount, lambda value: call(value, ()), NO_INTEGERS + (0, 7, -1))
            self.all_refused(InvalidParts, lambda value: call(2, value), NO_BARS)
            self.refuses(InvalidCount, call, 0, None, value=0)
            call(1, ())
            call(6, ())


class Fillings(Case):

    def test_there_and_back(self):
        for size, row in some_rows(3, 80):
            for prime in PRIMES:
                filling = filling_of_bars(size, prime, row)
                self.assertEqual((filling.plan, filling.prime, filling.sizes), (Plan.line(size), prime, sizes_of_bars(size, row)))
                self.assertEqual(bar_row_of(filling), row)

    def test_changed_by_turns(self):
        source = random.Random(4)
        for size, row in some_rows(4, 60):
            filling = filling_of_bars(size, source.choice(PRIMES), row)
            other = filling.changed(some_turns(source, filling))
            self.assertEqual(bar_row_of(other), row)
            for (s, t), rank in ranks_of_bars(size, row).items():
                self.same(rank_between(other, s, t), rank)

    def test_sums_of_bars(self):
        for size, row in some_rows(5, 40):
            total = Filling.zero(Plan.line(size), 3, (0,) * size)
            for bar, many in row:
                self.assertEqual(bar_row_of(filling_of_bar(size, 3, bar)), ((bar, 1),))
                self.assertIs(is_firm(filling_of_bar(size, 3, bar)), True)
                for _ in range(many):
                    total = total.summed(filling_of_bar(size, 3, bar))
            self.assertIs(are_alike(filling_of_bars(size, 3, row), total), True)
            self.assertEqual(bar_row_of(total), row)

    def test_by_other_parts(self):
        source = random.Random(6)
        for _ in range(40):
            size = source.randint(1, 5)
            filling = some_filling(source, Plan.line(size), source.choice(PRIMES), tuple([source.randint(0, 3) for _ in range(size)]))
            row = bar_row_of(filling)
            self.assertEqual(root_parts(filling), {tuple([int(s <= at <= t) for at in range(size)]): many for (s, t), many in sorted(row, key=lambda pair: tuple([int(pair[0][0] <= at <= pair[0][1]) for at in range(size)]))})
            if filling.total <= 12:
                self.assertEqual(len(part_sizes(filling)), sum([many for _, many in row]))

    def test_all_kinds(self):
        for sizes in ((2, 2), (1, 2, 1), (2, 1, 2), (3,), (1, 1, 1, 1)):
            self.assertEqual(sorted([bar_row_of(filling) for filling in all_kinds(Plan.line(len(sizes)), sizes, 2)]), list(bar_rows(sizes)))

    def test_ranks_by_products(self):
        source = random.Random(7)
        filling = some_filling(source, Plan.line(5), 3, (2, 4, 3, 4, 2))
        for s, t in all_bars(5):
            table = idle_table(3, filling.sizes[s])
            for at in range(s, t):
                table = filling.tables[at].times(table)
            self.same(rank_between(filling, s, t), table.rank)

    def test_edges(self):
        none = Filling.zero(Plan.line(3), 2, (0, 0, 0))
        self.assertEqual((bar_row_of(none), filling_of_bars(3, 2, ())), ((), none))
        self.assertEqual(bar_row_of(Filling.zero(POINT, 7, (6,))), (((0, 0), 6),))
        six = filling_of_bars(6, 7, (((0, 5), 6),))
        self.assertEqual((six.sizes, bar_row_of(six), rank_between(six, 0, 5), rank_between(six, 5, 5)), ((6,) * 6, (((0, 5), 6),), 6, 6))

    def test_errors(self):
        self.all_refused(InvalidFilling, bar_row_of, NO_FILLINGS)
        self.all_refused(InvalidFilling, lambda value: rank_between(value, 0, 0), NO_FILLINGS)
        self.all_refused(InvalidPoint, lambda value: rank_between(EYE, value, 0), NO_INTEGERS + (-1, 2))
        self.all_refused(InvalidPoint, lambda value: rank_between(EYE, 0, value), NO_INTEGERS + (-1, 2))
        self.refuses(InvalidFilling, rank_between, None, None, None)
        for plan in (TWINS, STAR, BARE, Plan.line(3).opposite(), Plan(3, ((1, 2), (0, 1)))):
            filling = Filling.zero(plan, 2, (1,) * plan.size)
            self.refuses(InvalidOperation, bar_row_of, filling)
            self.refuses(InvalidOperation, rank_between, filling, 0, 0)
            self.refuses(InvalidPoint, rank_between, filling, 0, 6)
        self.refuses(InvalidOperation, rank_between, EYE, 1, 0)
        self.all_refused(InvalidCount, lambda value: filling_of_bars(value, 2, ()), NO_INTEGERS + (0, 7))
        self.all_refused(InvalidPrime, lambda value: filling_of_bars(2, value, ()), NO_PRIMES)
        self.all_refused(InvalidParts, lambda value: filling_of_bars(2, 2, value), NO_BARS)
        self.refuses(InvalidCount, filling_of_bars, 7, 4, None)
        self.refuses(InvalidPrime, filling_of_bars, 2, 4, None)


class Homs(Case):

    def test_by_fillings(self):
        source = random.Random(8)
        for _ in range(80):
            size = source.randint(1, 5)
            one, other = [source.choice(list(bar_rows(tuple([source.randint(0, 2) for _ in range(size)])))) for _ in range(2)]
            prime = source.choice(PRIMES)
            left, right = filling_of_bars(size, prime, one), filling_of_bars(size, prime, other)
            left = left.changed(some_turns(source, left))
            self.same(bar_homs(size, one, other), hom_number(left, right))
            self.same(bar_exts(size, one, other), ext_number(left, right))

    def test_single_bars(self):
        for size in range(1, 7):
            for one, other in itertools.product(all_bars(size), repeat=2):
                left, right = ((one, 1),), ((other, 1),)
                (s, t), (u, v) = one, other
                self.same(bar_homs(size, left, right), int(u <= s <= v <= t))
                self.same(bar_exts(size, left, right), int(s + 1 <= u <= t + 1 <= v))
                self.assertEqual(bar_homs(size, left, right) - bar_exts(size, left, right),
                                 Plan.line(size).form(sizes_of_bars(size, left), sizes_of_bars(size, right)))

    def test_joined(self):
        for size in (1, 3, 6):
            for one, other in itertools.product(all_bars(size), repeat=2):
                found = joined_bars(size, one, other)
                if bar_exts(size, ((one, 1),), ((other, 1),)) == 0:
                    self.assertIsNone(found)
                    continue
                self.assertIs(is_bar_row(size, found), True)
                self.assertEqual(sizes_of_bars(size, found), sizes_of_bars(size, joined([((one, 1),), ((other, 1),)])))
                told = {(one[0], other[1]): 1}
                if other[0] <= one[1]:
                    told[(other[0], one[1])] = 1
                self.assertEqual(dict(found), told)

    def test_errors(self):
        for call in (bar_homs, bar_exts, are_below):
            self.all_refused(InvalidCount, lambda value: call(value, (), ()), NO_INTEGERS + (0, 7))
            self.all_refused(InvalidParts, lambda value: call(2, value, ()), NO_BARS)
            self.all_refused(InvalidParts, lambda value: call(2, (), value), NO_BARS)
            self.refuses(InvalidCount, call, 7, None, None)
        no_bars = NO_TUPLES + OTHERS + (1, (), (0,), (0, 2), (1, 0), (-1, 0), (0, 1, 1), (True, 1), (0, True), [0, 1], (0, None), ((0, 1), 1), (0, SIXTY_ONE))
        self.all_refused(InvalidPoint, lambda value: joined_bars(2, value, (0, 1)), no_bars)
        self.all_refused(InvalidPoint, lambda value: joined_bars(2, (0, 1), value), no_bars)
        self.all_refused(InvalidCount, lambda value: joined_bars(value, (0, 0), (0, 0)), NO_INTEGERS + (0, 7))
        self.refuses(InvalidCount, joined_bars, 7, None, None)


class Order(Case):

    def test_by_steps(self):
        """A bar row is below another one just if steps lead from it to that one."""
        met = {True: 0, False: 0}
        for sizes in ((2, 2), (2, 2, 2), (1, 2, 1, 1), (1, 3, 2), (1, 1, 1, 1, 1), (3, 2, 3)):
            rows, size = list(bar_rows(sizes)), len(sizes)
            for begin in rows:
                reached, todo = {begin}, [begin]
                while todo:
                    for row in steps_from(size, todo.pop()):
                        if row not in reached:
                            reached.add(row)
                            todo.append(row)
                for row in rows:
                    met[row in reached] += 1
                    self.assertIs(are_below(size, begin, row), row in reached)
        self.assertGreater(min(met.values()), 100)

    def test_by_ranks(self):
        for sizes in ((2, 3), (2, 2, 2)):
            for one, other in itertools.product(list(bar_rows(sizes)), repeat=2):
                left, right = ranks_of_bars(len(sizes), one), ranks_of_bars(len(sizes), other)
                self.assertIs(are_below(len(sizes), one, other), all([left[bar] <= right[bar] for bar in left]))

    def test_unlike_sizes(self):
        self.refuses(InvalidOperation, are_below, 2, SOME, ())
        self.refuses(InvalidOperation, are_below, 2, (((0, 0), 1),), (((1, 1), 1),))
        self.assertIs(are_below(2, (), ()), True)

    def test_not_true(self):
        """Two bar rows with the same sizes, and neither is below the other one; equal ranks of all tables are not enough."""
        rows = list(bar_rows((1, 1, 1)))
        pairs = [(one, other) for one in rows for other in rows if not are_below(3, one, other) and not are_below(3, other, one)]
        self.assertTrue(pairs)
        one = Filling(Plan.line(3), 2, (1, 2, 1), (Table(2, 2, 1, ((1,), (0,))), Table(2, 1, 2, ((1, 0),))))
        other = Filling(Plan.line(3), 2, (1, 2, 1), (Table(2, 2, 1, ((1,), (0,))), Table(2, 1, 2, ((0, 1),))))
        self.assertEqual([table.rank for table in one.tables], [table.rank for table in other.tables])
        self.assertNotEqual(bar_row_of(one), bar_row_of(other))


class Counts(Case):

    def test_turns_by_keepers(self):
        for sizes in ((1, 2), (2, 2), (1, 1, 1), (1, 2, 1), (2,), (1, 1, 1, 1)):
            for row in bar_rows(sizes):
                for prime in (2, 3):
                    filling = filling_of_bars(len(sizes), prime, row)
                    if bar_homs(len(sizes), row, row) <= 8:
                        self.assertEqual(bar_turns(len(sizes), row).at(prime), keepers_number(filling))
                        self.assertEqual(bar_fillings(len(sizes), row).at(prime), orbit_number(filling))

    def test_fillings_counted(self):
        for prime, sizes in ((2, (2, 2)), (2, (2, 1, 2)), (3, (1, 2)), (5, (1, 1)), (3, (1, 1, 1)), (2, (1, 2, 1, 1))):
            counts = {}
            for filling in all_fillings(Plan.line(len(sizes)), prime, sizes):
                row = bar_row_of(filling)
                counts[row] = counts.get(row, 0) + 1
            self.assertEqual(counts, {row: bar_fillings(len(sizes), row).at(prime) for row in bar_rows(sizes)})

    def test_added_up(self):
        for sizes in SIZES:
            total = Poly(())
            for row in bar_rows(sizes):
                found, turns = bar_fillings(len(sizes), row), bar_turns(len(sizes), row)
                self.assertIsInstance(found, Poly)
                total, product = total.plus(found), Poly((1,))
                for size in sizes:
                    product = product.times(turn_count(size))
                self.assertEqual(found.times(turns), product)
            self.assertEqual(total, power_of_q(sum([sizes[at] * sizes[at + 1] for at in range(len(sizes) - 1)])).top)

    def test_great_ones(self):
        row = tuple([((s, s), 6) for s in range(6)])
        self.assertEqual(bar_fillings(6, row), Poly((1,)))
        product = Poly((1,))
        for _ in range(6):
            product = product.times(turn_count(6))
        self.assertEqual(bar_turns(6, row), product)
        self.assertEqual(bar_turns(6, (((0, 5), 6),)), turn_count(6))
        self.assertEqual((bar_turns(6, ()), bar_fillings(6, ())), (Poly((1,)), Poly((1,))))


class Zero(Case):

    def test_zero_tables(self):
        filling = Filling(Plan.line(2), 5, (2, 3), (zero_table(5, 3, 2),))
        self.assertEqual(bar_row_of(filling), (((0, 0), 2), ((1, 1), 3)))


if __name__ == "__main__":
    unittest.main()
