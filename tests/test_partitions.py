"""[3.1] to [3.5] and what stands there: partitions."""

import itertools
import unittest

from arrowsizes.errors import InvalidCount, InvalidOperation, InvalidParts, InvalidSizes, TooMany
from arrowsizes.grid.tables import Table, turns
from arrowsizes.poly.polys import Poly, Quotient, turn_count
from arrowsizes.slices import partitions as module
from arrowsizes.slices.partitions import (
    conjugate, covers, is_above, is_parts, joined_parts, parts_of_ranks, partitions, product_number, ranks_of,
    rows_of_parts, tables_with, total_of, turns_of)
from tests.helpers import Case, NO_INTEGERS, NO_TUPLES, SIXTY_ONE

Q = Poly((0, 1))
EDGES = ((), (1,), (24,), (1,) * 24, (12, 12), (23, 1), (2,) * 12, (8, 7, 5, 3, 1))
SMALL = tuple([parts for total in range(8) for parts in partitions(total)])
WRONG = ((0,), (1, 0), (-1,), (1, 2), (3, 1, 2), (25,), (24, 1), (1,) * 25, (True,), (2, True), ("1",), ((1,),), (SIXTY_ONE,), [2, 1], (2, None))


def block_rows(parts):
    """The rows of the block table."""
    size, rows, start = sum(parts), [], 0
    for part in parts:
        for at in range(part):
            rows.append(tuple([1 if at < part - 1 and column == start + at + 1 else 0 for column in range(size)]))
        start += part
    return tuple(rows)


def all_tables(prime, size):
    """All square tables of a size."""
    columns = list(itertools.product(range(prime), repeat=size))
    return [Table(prime, size, size, rows) for rows in itertools.product(columns, repeat=size)]


def ranks_by_powers(table):
    """The ranks of the powers of a table, as far as they are above 0, or None if they do not end."""
    ranks, power = [], table
    for _ in range(table.height + 1):
        if power.rank == 0:
            return tuple(ranks)
        ranks.append(power.rank)
        power = power.times(table)
    return None


class Parts(Case):

    def test_constants(self):
        self.assertEqual((module.MAX_PARTS, module.MAX_LISTED, module.MAX_ROWS), (24, 18, 3000))

    def test_is_parts(self):
        for value in EDGES + SMALL:
            self.assertIs(is_parts(value), True)
        for value in WRONG + NO_TUPLES:
            self.assertIs(is_parts(value), False)

    def test_refused_everywhere(self):
        for call in (total_of, conjugate, turns_of, tables_with, ranks_of, covers):
            self.all_refused(InvalidParts, call, WRONG + NO_TUPLES)
        for call in (joined_parts, product_number, is_above):
            self.all_refused(InvalidParts, lambda value: call(value, (1,)), WRONG + NO_TUPLES)
            self.all_refused(InvalidParts, lambda value: call((1,), value), WRONG + NO_TUPLES)

    def test_total(self):
        self.assertEqual([total_of(parts) for parts in EDGES], [0, 1, 24, 24, 24, 24, 24, 24])

    def test_conjugate(self):
        for parts in SMALL + EDGES:
            told = tuple([len([part for part in parts if part > at]) for at in range(24)])
            found = conjugate(parts)
            self.assertEqual(found + (0,) * (24 - len(found)), told)
            self.assertTrue(is_parts(found))
            self.assertEqual(conjugate(found), parts)
        self.assertEqual(conjugate(()), ())

    def test_joined(self):
        for one, other in itertools.product(SMALL, repeat=2):
            found = joined_parts(one, other)
            self.assertEqual(found, tuple(sorted(one + other, reverse=True)))
            sums = itertools.zip_longest(conjugate(one), conjugate(other), fillvalue=0)
            self.assertEqual(conjugate(found), tuple([left + right for left, right in sums]))
        self.assertEqual(joined_parts((24,), ()), (24,))
        self.assertEqual(total_of(joined_parts((12,), (11, 1))), 24)
        self.refuses(TooMany, joined_parts, (24,), (1,), limit=24)
        self.refuses(TooMany, joined_parts, (13,), (11, 1), limit=24)
        self.refuses(InvalidParts, joined_parts, (24,), (25,))

    def test_partitions(self):
        for number in range(7):
            rows = [row for many in range(number + 1) for row in itertools.product(range(1, number + 1), repeat=many)]
            told = [row for row in rows if sum(row) == number and list(row) == sorted(row, reverse=True)]
            self.same(partitions(number), tuple(sorted(told)))
        numbers = [1, 1, 2, 3, 5, 7, 11, 15, 22, 30, 42, 56, 77, 101, 135, 176, 231, 297, 385]
        self.assertEqual([len(partitions(number)) for number in range(19)], numbers)
        self.assertEqual(list(partitions(18)), sorted(set(partitions(18))))
        self.assertTrue(all([is_parts(parts) and sum(parts) == 18 for parts in partitions(18)]))
        self.not_counts(partitions, 0, 18)

    def test_rows_of_parts(self):
        for sizes in ((0,), (6,), (0, 0, 0, 0, 0, 0), (3, 2), (2, 0, 4), (1, 2, 3, 1), (6, 6, 6)):
            told = itertools.product(*[partitions(size) for size in sizes])
            self.same(rows_of_parts(sizes), tuple(sorted(told)))
        self.assertEqual(len(rows_of_parts((6, 6, 4, 2, 2))), 2420)
        self.refuses(TooMany, rows_of_parts, (6, 6, 6, 3), limit=3000)
        self.refuses(TooMany, rows_of_parts, (6,) * 6, limit=3000)
        self.assertEqual(len(rows_of_parts((5, 5, 5, 4, 0))), 1715)
        self.refuses(TooMany, rows_of_parts, (5, 5, 5, 3, 3), limit=3000)
        self.all_refused(InvalidSizes, rows_of_parts, NO_TUPLES + ((), (7,), (-1,), (1,) * 7, (True,), [1], ("1",)))


class Numbers(Case):

    def test_product_number(self):
        for one, other in itertools.product(SMALL[:30], repeat=2):
            found = product_number(one, other)
            self.assertEqual(found, sum([min(left, right) for left in one for right in other]))
            self.assertEqual(found, sum([left * right for left, right in zip(conjugate(one), conjugate(other))]))
            self.assertEqual(found, product_number(other, one))
            for third in ((), (1,), (3, 1), (2, 2)):
                told = found + product_number(third, other)
                self.assertEqual(product_number(joined_parts(one, third), other), told)
        self.assertEqual(product_number((1,) * 24, (1,) * 24), 576)
        self.assertEqual(product_number((24,), ()), 0)

    def test_product_number_counts_tables(self):
        for one, other in (((2, 1), (2,)), ((1, 1), (2,)), ((2,), (2, 1)), ((3,), (2,))):
            left = Table(2, sum(one), sum(one), block_rows(one))
            right = Table(2, sum(other), sum(other), block_rows(other))
            columns = list(itertools.product((0, 1), repeat=sum(other)))
            many = 0
            for rows in itertools.product(columns, repeat=sum(one)):
                table = Table(2, sum(one), sum(other), rows)
                many += left.times(table) == table.times(right)
            self.assertEqual(many, 2 ** product_number(one, other))

    def test_turns_by_their_product(self):
        for parts in SMALL + EDGES:
            told = Quotient(1)
            for _ in range(product_number(parts, parts)):
                told = told.times(Q)
            for part in sorted(set(parts)):
                for power in range(1, parts.count(part) + 1):
                    told = told.times(Quotient(1).minus(Quotient(1, Q.raised(power))))
            self.assertIsInstance(turns_of(parts), Poly)
            self.assertEqual(Quotient(turns_of(parts)), told)

    def test_turns_counted(self):
        for prime, total in ((2, 0), (2, 1), (2, 2), (2, 3), (3, 2)):
            for parts in partitions(total):
                block = Table(prime, total, total, block_rows(parts))
                kept = [turn for turn in turns(prime, total) if turn.times(block) == block.times(turn)]
                self.assertEqual(turns_of(parts).at(prime), len(kept))

    def test_tables_counted(self):
        for prime, total in ((2, 0), (2, 1), (2, 2), (2, 3), (3, 2)):
            ranks = [ranks_by_powers(table) for table in all_tables(prime, total)]
            for parts in partitions(total):
                self.assertEqual(tables_with(parts).at(prime), ranks.count(ranks_of(parts)))

    def test_tables_add_up(self):
        for total in range(10):
            added = Poly(())
            for parts in partitions(total):
                self.assertEqual(tables_with(parts).times(turns_of(parts)), turn_count(total))
                added = added.plus(tables_with(parts))
            self.assertEqual(added.coefficients, (0,) * (total * (total - 1)) + (1,))

    def test_greatest(self):
        self.assertEqual(tables_with((1,) * 24), Poly((1,)))
        self.assertEqual(tables_with((24,)).degree, 24 * 23)
        self.assertEqual(turns_of((24,)), Q.raised(24).minus(Q.raised(23)))
        self.assertEqual(tables_with(()), Poly((1,)))


class Ranks(Case):

    def test_ranks_of_block_tables(self):
        for parts in SMALL + ((8, 7, 5, 3, 1), (12, 12), (1,) * 24):
            total = sum(parts)
            self.assertEqual(ranks_of(parts), ranks_by_powers(Table(3, total, total, block_rows(parts))))
        self.assertEqual(ranks_of((24,)), tuple(range(23, 0, -1)))

    def test_there_and_back(self):
        for parts in SMALL + EDGES:
            self.assertEqual(parts_of_ranks(sum(parts), ranks_of(parts)), parts)

    def test_no_others(self):
        for number in range(6):
            told = {ranks_of(parts): parts for parts in partitions(number)}
            for many in range(4):
                for ranks in itertools.product(range(-1, 6), repeat=many):
                    if ranks in told:
                        self.assertEqual(parts_of_ranks(number, ranks), told[ranks])
                    else:
                        self.refuses(InvalidOperation, parts_of_ranks, number, ranks)

    def test_refused(self):
        self.not_counts(lambda value: parts_of_ranks(value, ()), 0, 24)
        self.all_refused(InvalidOperation, lambda value: parts_of_ranks(7, value), NO_TUPLES)
        for ranks in ((4, True), [4, 1], ("4",), (SIXTY_ONE,), (4, 1, 0), (4, 4), (7,), (0,), (6, 5, 4, 3, 2, 1, 0)):
            self.refuses(InvalidOperation, parts_of_ranks, 7, ranks)
        self.refuses(InvalidOperation, parts_of_ranks, 0, (0,))
        self.refuses(InvalidCount, parts_of_ranks, 25, (0,), value=25)
        self.refuses(InvalidCount, parts_of_ranks, True, None, value=True)


class Order(Case):

    def test_is_above(self):
        for total in range(9):
            for one, other in itertools.product(partitions(total), repeat=2):
                sums = [sum(one[:k]) >= sum(other[:k]) for k in range(total + 1)]
                self.assertIs(is_above(one, other), all(sums))
                self.assertIs(is_above(one, other), is_above(conjugate(other), conjugate(one)))
        self.assertIs(is_above((24,), (1,) * 24), True)
        self.assertIs(is_above((1,) * 24, (24,)), False)
        self.assertIs(is_above((), ()), True)

    def test_unlike_totals(self):
        self.refuses(InvalidOperation, is_above, (2,), (1,))
        self.refuses(InvalidOperation, is_above, (), (24,))
        self.refuses(InvalidParts, is_above, (2,), (1, 2))

    def test_not_true(self):
        self.assertEqual((is_above((3, 1, 1, 1), (2, 2, 2)), is_above((2, 2, 2), (3, 1, 1, 1))), (False, False))
        self.assertEqual([ranks_of(parts)[0] for parts in ((3, 1), (2, 2))], [2, 2])

    def test_covers(self):
        for total in range(11):
            lots = partitions(total)
            below = {one: [r for r in lots if r != one and is_above(one, r)] for one in lots}
            for one in lots:
                told = [r for r in below[one] if not any([r in below[third] for third in below[one]])]
                self.same(covers(one), tuple(told))

    def test_covers_of_great_ones(self):
        self.assertEqual(covers((24,)), ((23, 1),))
        self.assertEqual(covers((1,) * 24), ())
        self.assertEqual(covers((2,) + (1,) * 22), ((1,) * 24,))
        for parts in EDGES:
            for one in covers(parts):
                self.assertTrue(is_above(parts, one) and one != parts and is_parts(one))


if __name__ == "__main__":
    unittest.main()
