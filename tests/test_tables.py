"""[4.1] to [4.5] and what stands there: tables modulo a prime."""

import itertools
import random
import unittest

from arrowsizes.errors import InvalidCount, InvalidOperation, InvalidPrime, InvalidTable, TooMany
from arrowsizes.grid import tables as module
from arrowsizes.grid.tables import (
    Table, base_of, free_rest, idle_table, spaces, tables_of_rank, turn_number, turns, zero_table)
from arrowsizes.poly.polys import Poly, Quotient, gauss
from tests.helpers import Case, NO_INTEGERS, NO_TUPLES, OTHERS, SIXTY, SIXTY_ONE

PRIMES = (2, 3, 5, 7)
SIDES = ((0, 0), (0, 3), (3, 0), (1, 1), (2, 3), (3, 2), (3, 3), (4, 4), (5, 2), (6, 6))
NO_PRIMES = OTHERS + (0, 1, -2, 4, 6, 9, 11, 13, SIXTY, SIXTY_ONE)
Q = Poly((0, 1))


def some_table(source, prime, height, width):
    """A table that looks random; some have a low rank."""
    if source.randint(0, 2) == 0 and height and width:
        rank = source.randint(0, min(height, width))
        return some_rows(source, prime, height, rank).times(some_rows(source, prime, rank, width))
    return some_rows(source, prime, height, width)


def some_rows(source, prime, height, width):
    return Table(prime, height, width, tuple([tuple([source.randrange(prime) for _ in range(width)]) for _ in range(height)]))


def some_tables(seed, many):
    source = random.Random(seed)
    return [some_table(source, source.choice(PRIMES), *source.choice(SIDES)) for _ in range(many)]


def all_columns(prime, height):
    return list(itertools.product(range(prime), repeat=height))


def sums_of(prime, height, columns):
    """All sums of multiples of the columns, a set."""
    found = {(0,) * height}
    for column in columns:
        found = {tuple([(a + k * b) % prime for a, b in zip(one, column)]) for one in found for k in range(prime)}
    return found


def lead(column):
    return [at for at, residue in enumerate(column) if residue][0]


def is_base(columns):
    """Whether the columns are what [4.2] tells of a base."""
    if not all([any(column) for column in columns]):
        return False
    leads = [lead(column) for column in columns]
    if leads != sorted(set(leads)):
        return False
    return all([column[at] == int(leads[k] == at) for k, column in enumerate(columns) for at in leads])


def determinant(rows):
    """The determinant by all arrangements."""
    total = 0
    for places in itertools.permutations(range(len(rows))):
        falls = sum([places[a] > places[b] for a in range(len(rows)) for b in range(a + 1, len(rows))])
        product = 1
        for at, place in enumerate(places):
            product *= rows[at][place]
        total += product * (-1) ** falls
    return total


class Making(Case):

    def test_constants(self):
        self.assertEqual((module.MAX_SIDE, module.MAX_TURNS, module.MAX_SPACES), (36, 20000, 3000))

    def test_properties(self):
        table = Table(5, 2, 3, ((1, 2, 3), (0, 1, 4)))
        for name, told in (("prime", 5), ("height", 2), ("width", 3), ("rows", ((1, 2, 3), (0, 1, 4))), ("rank", 2), ("is_turn", False)):
            self.same(getattr(table, name), told)
            with self.assertRaises(AttributeError):
                setattr(table, name, told)
        self.never_iterated(table)

    def test_empty_and_greatest(self):
        for height, width in ((0, 0), (0, 36), (36, 0), (36, 36), (1, 36)):
            table = Table(7, height, width, ((6,) * width,) * height)
            self.assertEqual((table.height, table.width), (height, width))
            self.assertEqual(table.rank, min(1, height, width))
            self.assertIs(table.is_turn, height == width == 0)
        self.assertFalse(Table(2, 0, 1, ()) == Table(2, 0, 2, ()))

    def test_primes(self):
        makers = (lambda p: Table(p, 1, 1, ((1,),)), lambda p: idle_table(p, 1), lambda p: zero_table(p, 1, 1), lambda p: base_of(p, 1, ()),
                  lambda p: free_rest(p, 1, ()), lambda p: turn_number(p, 1), lambda p: list(turns(p, 1)), lambda p: list(spaces(p, 1, 1)))
        for make in makers:
            for prime in PRIMES:
                make(prime)
            self.all_refused(InvalidPrime, make, NO_PRIMES)

    def test_sides(self):
        self.not_counts(lambda value: zero_table(3, value, 2), 0, 36)
        self.not_counts(lambda value: zero_table(3, 2, value), 0, 36)
        self.not_counts(lambda value: idle_table(3, value), 0, 36)
        self.not_counts(lambda value: turn_number(3, value), 0, 36)
        self.not_counts(lambda value: base_of(3, value, ()), 0, 36)
        self.not_counts(lambda value: free_rest(3, value, ()), 0, 36)
        self.all_refused(InvalidCount, lambda value: Table(3, value, 0, ()), NO_INTEGERS + (-1, 37))
        self.all_refused(InvalidCount, lambda value: Table(3, 0, value, ()), NO_INTEGERS + (-1, 37))

    def test_rows(self):
        self.all_refused(InvalidTable, lambda value: Table(3, 1, 1, value), NO_TUPLES)
        wrong = ((), ((1,), (1,)), ((1, 1),), ((),), ((3,),), ((-1,),), ((True,),), (1,), ([1],), (("1",),), ((SIXTY_ONE,),), ((None,),), (((1,),),))
        self.all_refused(InvalidTable, lambda value: Table(3, 1, 1, value), wrong)
        self.refuses(InvalidTable, Table, 3, 0, 2, ((),))
        self.refuses(InvalidTable, Table, 3, 2, 0, ((),))

    def test_first_error(self):
        self.refuses(InvalidPrime, Table, 4, 37, True, None)
        self.refuses(InvalidCount, Table, 3, 37, True, None, value=37)
        self.refuses(InvalidCount, Table, 3, 36, True, None, value=True)
        self.refuses(InvalidPrime, idle_table, 4, 37)
        self.refuses(InvalidPrime, zero_table, 1, -1, -2)
        self.refuses(InvalidCount, zero_table, 2, -1, -2, value=-1)
        self.refuses(InvalidPrime, base_of, 0, -1, 5)
        self.refuses(InvalidCount, base_of, 2, -1, 5, value=-1)
        self.refuses(InvalidPrime, turn_number, True, True)

    def test_equality(self):
        one = Table(3, 1, 2, ((1, 2),))
        self.assertTrue(one == Table(3, 1, 2, ((1, 2),)))
        self.assertFalse(one != Table(3, 1, 2, ((1, 2),)))
        for value in OTHERS + (0, ((1, 2),), Table(5, 1, 2, ((1, 2),)), Table(3, 1, 2, ((1, 1),)), Table(3, 2, 1, ((1,), (2,)))):
            self.assertIs(one == value, False)
            self.assertIs(one != value, True)

    def test_text(self):
        self.same(str(zero_table(5, 2, 3)), "table of 2 by 3 modulo 5")
        self.same(str(zero_table(7, 0, 36)), "table of 0 by 36 modulo 7")

    def test_idle_and_zero(self):
        self.assertEqual(idle_table(2, 2).rows, ((1, 0), (0, 1)))
        self.assertEqual(zero_table(2, 2, 1).rows, ((0,), (0,)))
        self.assertEqual((idle_table(5, 0).rows, zero_table(5, 0, 4).rows, zero_table(5, 2, 0).rows), ((), (), ((), ())))
        self.assertEqual(idle_table(3, 36).rank, 36)


class Reckoning(Case):

    def test_entry_at(self):
        table = Table(5, 2, 3, ((1, 2, 3), (0, 1, 4)))
        self.assertEqual([table.entry_at(0, 2), table.entry_at(1, 0), table.entry_at(1, 2)], [3, 0, 4])
        self.not_counts(lambda value: table.entry_at(value, 0), 0, 1)
        self.not_counts(lambda value: table.entry_at(0, value), 0, 2)
        self.refuses(InvalidCount, table.entry_at, 2, 3, value=2)
        self.refuses(InvalidCount, table.entry_at, False, 3, value=False)
        self.refuses(InvalidCount, Table(5, 0, 3, ()).entry_at, 0, 0, value=0)

    def test_sums(self):
        source = random.Random(1)
        for prime, (height, width) in itertools.product(PRIMES, SIDES):
            one, other = some_rows(source, prime, height, width), some_rows(source, prime, height, width)
            for at in range(height):
                for place in range(width):
                    left, right = one.rows[at][place], other.rows[at][place]
                    self.assertEqual(one.plus(other).rows[at][place], (left + right) % prime)
                    self.assertEqual(one.minus(other).rows[at][place], (left - right) % prime)
                    self.assertEqual(one.scaled(-3).rows[at][place], -3 * left % prime)
                    self.assertEqual(one.scaled(SIXTY).rows[at][place], SIXTY * left % prime)
            self.assertEqual(one.minus(one), zero_table(prime, height, width))
            self.assertEqual(one.scaled(0), zero_table(prime, height, width))

    def test_scaled_refused(self):
        self.all_refused(InvalidCount, idle_table(2, 2).scaled, NO_INTEGERS)

    def test_products_lead_one_after_the_other(self):
        source = random.Random(2)
        for prime in PRIMES:
            for height, width, other_width in itertools.product((0, 1, 2, 4), repeat=3):
                one, other = some_rows(source, prime, height, width), some_rows(source, prime, width, other_width)
                product = one.times(other)
                self.assertEqual((product.prime, product.height, product.width), (prime, height, other_width))
                for column in all_columns(prime, other_width)[:40]:
                    self.assertEqual(product.leading(column), one.leading(other.leading(column)))

    def test_leading(self):
        for table in some_tables(3, 40):
            columns = table.swapped().rows
            for column in all_columns(table.prime, table.width)[:30]:
                told = [sum([k * c[at] for k, c in zip(column, columns)]) % table.prime for at in range(table.height)]
                self.same(table.leading(column), tuple(told))

    def test_operands_refused(self):
        one = Table(3, 1, 2, ((1, 2),))
        no_tables = tuple([value for value in OTHERS if not isinstance(value, Table)]) + (3, ((1, 2),), SIXTY_ONE)
        for name in ("plus", "minus", "times", "blocks"):
            self.all_refused(InvalidTable, getattr(one, name), no_tables)
        for other in (zero_table(5, 1, 2), zero_table(3, 2, 1), zero_table(3, 1, 1), zero_table(3, 2, 2)):
            self.refuses(InvalidOperation, one.plus, other)
            self.refuses(InvalidOperation, one.minus, other)
        for other in (zero_table(5, 2, 1), zero_table(3, 1, 2), zero_table(3, 3, 1), zero_table(3, 0, 0)):
            self.refuses(InvalidOperation, one.times, other)
        self.refuses(InvalidOperation, one.blocks, zero_table(5, 36, 36))

    def test_columns_refused(self):
        table = Table(3, 1, 2, ((1, 2),))
        for call, good in ((table.leading, (1, 2)), (table.solved, (2,))):
            call(good)
            wrong = NO_TUPLES + ((), good + (1,), (3,) * len(good), (-1,) * len(good), (True,) * len(good), list(good), ((1,),) * len(good))
            self.all_refused(InvalidOperation, call, wrong)
        self.refuses(InvalidOperation, table.solved, (1, 2))
        self.refuses(InvalidOperation, table.leading, (1,))

    def test_blocks(self):
        source = random.Random(4)
        for one_sides, other_sides in itertools.product(SIDES[:8], repeat=2):
            one, other = some_rows(source, 5, *one_sides), some_rows(source, 5, *other_sides)
            found = one.blocks(other)
            self.assertEqual((found.height, found.width), (one.height + other.height, one.width + other.width))
            for at, place in itertools.product(range(found.height), range(found.width)):
                told = 0
                if at < one.height and place < one.width:
                    told = one.rows[at][place]
                if at >= one.height and place >= one.width:
                    told = other.rows[at - one.height][place - one.width]
                self.assertEqual(found.rows[at][place], told)
            self.assertEqual(found.rank, one.rank + other.rank)

    def test_blocks_limit(self):
        self.assertEqual(idle_table(2, 18).blocks(idle_table(2, 18)), idle_table(2, 36))
        self.assertEqual(zero_table(2, 36, 0).blocks(zero_table(2, 0, 36)), zero_table(2, 36, 36))
        self.refuses(TooMany, idle_table(2, 36).blocks, idle_table(2, 1), limit=36)
        self.refuses(TooMany, zero_table(2, 36, 0).blocks, zero_table(2, 1, 0), limit=36)
        self.refuses(TooMany, zero_table(2, 0, 36).blocks, zero_table(2, 0, 1), limit=36)
        self.refuses(InvalidOperation, idle_table(2, 36).blocks, idle_table(3, 1))

    def test_swapped(self):
        for table in some_tables(5, 40):
            swapped = table.swapped()
            self.assertEqual((swapped.height, swapped.width, swapped.rank), (table.width, table.height, table.rank))
            self.assertEqual(swapped.swapped(), table)
            for at, place in itertools.product(range(table.height), range(table.width)):
                self.assertEqual(table.entry_at(at, place), swapped.entry_at(place, at))


class Spaces(Case):

    def test_kernel_and_image(self):
        for table in some_tables(6, 120):
            kernel, image = table.kernel(), table.image()
            self.assertTrue(is_base(kernel) and is_base(image))
            self.assertEqual(len(image), table.rank)
            self.assertEqual(len(kernel), table.width - table.rank)
            if table.prime ** table.width < 2000:
                columns = all_columns(table.prime, table.width)
                told = {column for column in columns if not any(table.leading(column))}
                self.assertEqual(sums_of(table.prime, table.width, kernel), told)
                told = {table.leading(column) for column in columns}
                self.assertEqual(sums_of(table.prime, table.height, image), told)

    def test_solved(self):
        for table in some_tables(7, 120):
            if table.prime ** max(table.width, table.height) < 2000:
                led = {table.leading(column) for column in all_columns(table.prime, table.width)}
                for column in all_columns(table.prime, table.height)[:200]:
                    found = table.solved(column)
                    if column in led:
                        self.same(table.leading(found), column)
                    else:
                        self.assertIsNone(found)
        self.assertEqual(Table(2, 0, 2, ()).leading(Table(2, 0, 2, ()).solved(())), ())
        self.assertEqual(Table(2, 2, 0, ((), ())).solved((0, 0)), ())
        self.assertIsNone(Table(2, 2, 0, ((), ())).solved((0, 1)))

    def test_bases(self):
        source = random.Random(8)
        for prime, height in itertools.product(PRIMES, (0, 1, 2, 3, 4)):
            for many in (0, 1, 2, 3, 5, 36):
                columns = tuple([tuple([source.randrange(prime) for _ in range(height)]) for _ in range(many)])
                base = base_of(prime, height, columns)
                self.assertTrue(is_base(base))
                self.assertEqual(sums_of(prime, height, base), sums_of(prime, height, columns))
                self.same(free_rest(prime, height, columns), tuple([at for at in range(height) if at not in [lead(c) for c in base]]))
                self.assertEqual(base_of(prime, height, base), base)

    def test_bases_of_edges(self):
        self.assertEqual((base_of(3, 0, ()), base_of(3, 0, ((), ())), base_of(3, 2, ((0, 0),))), ((), (), ()))
        self.assertEqual((free_rest(3, 0, ()), free_rest(3, 3, ()), free_rest(3, 2, ((0, 2),))), ((), (0, 1, 2), (0,)))
        whole = idle_table(7, 36).rows
        self.assertEqual(base_of(7, 36, whole[::-1]), whole)
        self.assertEqual(free_rest(7, 36, whole), ())

    def test_columns_refused(self):
        for call in (base_of, free_rest):
            call(3, 2, ((0, 1),) * 36)
            self.refuses(InvalidOperation, call, 3, 2, ((0, 1),) * 37)
            self.all_refused(InvalidOperation, lambda value: call(3, 2, value), NO_TUPLES)
            for wrong in (((0,),), ((0, 3),), ((0, -1),), ((0, True),), ([0, 1],), (0, 1), ((0, 1), None), ((0, 1, 2),), ((0, SIXTY_ONE),)):
                self.refuses(InvalidOperation, call, 3, 2, wrong)

    def test_all_spaces(self):
        for prime, height in ((2, 0), (2, 1), (2, 2), (2, 3), (3, 2), (5, 2), (2, 4)):
            columns = all_columns(prime, height)
            for number in range(height + 2):
                lots = {frozenset(sums_of(prime, height, lot)): lot for lot in itertools.combinations(columns, number)}
                told = sorted([base_of(prime, height, lot) for space, lot in lots.items() if len(space) == prime ** number])
                found = list(spaces(prime, height, number))
                self.assertEqual(found, told)
                self.assertEqual(len(found), gauss(height, number).at(prime))

    def test_spaces_edges(self):
        self.assertEqual(list(spaces(7, 12, 0)), [()])
        self.assertEqual(list(spaces(7, 12, 12)), [idle_table(7, 12).rows])
        self.assertEqual(list(spaces(7, 2, 12)), [])
        self.assertEqual(list(spaces(2, 0, 0)), [()])
        for prime, height, number in ((2, 11, 1), (2, 11, 10), (7, 4, 1), (3, 7, 6), (2, 6, 3), (5, 4, 2)):
            found = list(spaces(prime, height, number))
            self.assertEqual(len(found), gauss(height, number).at(prime))
            self.assertEqual(found, sorted(set(found)))
            self.assertTrue(all([is_base(base) and len(base) == number for base in found]))

    def test_spaces_refused(self):
        self.all_refused(InvalidCount, lambda value: list(spaces(2, value, 0)), NO_INTEGERS + (-1, 13))
        self.all_refused(InvalidCount, lambda value: list(spaces(2, 2, value)), NO_INTEGERS + (-1, 13))
        for prime, height, number in ((2, 12, 1), (2, 12, 6), (7, 12, 11), (3, 8, 1), (2, 7, 3)):
            self.assertGreater(gauss(height, number).at(prime), 3000)
            self.refuses(TooMany, lambda: list(spaces(prime, height, number)), limit=3000)
        self.refuses(InvalidPrime, lambda: list(spaces(4, 13, True)))
        self.refuses(InvalidCount, lambda: list(spaces(2, 13, True)), value=13)

    def test_generators_wait(self):
        for one, error in ((turns(4, True), InvalidPrime), (turns(2, 37), InvalidCount), (turns(2, 4), TooMany),
                           (spaces(4, 1, 1), InvalidPrime), (spaces(2, 12, 6), TooMany)):
            self.refuses(error, next, one)
        self.assertEqual(next(iter(turns(2, 1))).rows, ((1,),))


class Turns(Case):

    def test_undone(self):
        met = 0
        for table in some_tables(9, 200):
            if table.height == table.width:
                self.assertIs(table.is_turn, determinant(table.rows) % table.prime != 0)
            if table.is_turn:
                met += 1
                undone, idle = table.undone(), idle_table(table.prime, table.height)
                self.assertEqual((table.times(undone), undone.times(table), undone.undone()), (idle, idle, table))
            else:
                self.refuses(InvalidOperation, table.undone)
        self.assertGreater(met, 30)

    def test_great_turn(self):
        source = random.Random(11)
        rows = [[int(at == place) if place <= at else source.randrange(7) for place in range(36)] for at in range(36)]
        upper = Table(7, 36, 36, tuple([tuple(row) for row in rows]))
        table = upper.swapped().times(upper)
        self.assertTrue(table.is_turn)
        self.assertEqual(table.times(table.undone()), idle_table(7, 36))

    def test_all_turns(self):
        for prime, size in ((2, 0), (2, 1), (2, 2), (2, 3), (3, 1), (3, 2), (5, 1), (5, 2), (7, 1), (7, 2), (7, 0)):
            rows = sorted(itertools.product(all_columns(prime, size), repeat=size))
            told = [lot for lot in rows if determinant(lot) % prime]
            found = list(turns(prime, size))
            self.assertEqual([table.rows for table in found], told)
            self.assertEqual(turn_number(prime, size), len(told))
            self.assertTrue(all([isinstance(table, Table) and table.prime == prime for table in found]))

    def test_many_turns(self):
        found = [table.rows for table in turns(3, 3)]
        self.assertEqual(len(found), 11232)
        self.assertEqual(found, sorted(found))

    def test_turn_number(self):
        for prime in PRIMES:
            for size in (0, 1, 2, 5, 36):
                told = 1
                for at in range(size):
                    told *= prime ** size - prime ** at
                self.same(turn_number(prime, size), told)

    def test_turns_refused(self):
        self.all_refused(InvalidCount, lambda value: list(turns(2, value)), NO_INTEGERS + (-1, 37))
        for prime, size in ((2, 4), (5, 3), (3, 4), (7, 3), (2, 36)):
            self.refuses(TooMany, lambda: list(turns(prime, size)), limit=20000)

    def test_tables_of_rank_counted(self):
        for prime, height, width in ((2, 0, 2), (2, 1, 3), (2, 3, 2), (2, 3, 3), (3, 2, 2), (5, 1, 2), (3, 2, 3)):
            rows = itertools.product(all_columns(prime, width), repeat=height)
            ranks = [Table(prime, height, width, lot).rank for lot in rows]
            for rank in range(5):
                self.assertEqual(tables_of_rank(height, width, rank).at(prime), ranks.count(rank))

    def test_tables_of_rank_by_their_fraction(self):
        for height, width, rank in itertools.product((0, 1, 2, 3, 6, 12), repeat=3):
            above, below = Poly((1,)), Poly((1,))
            for at in range(rank):
                power = Q.raised(at)
                above = above.times(Q.raised(height).minus(power)).times(Q.raised(width).minus(power))
                below = below.times(Q.raised(rank).minus(power))
            found = tables_of_rank(height, width, rank)
            self.assertIsInstance(found, Poly)
            self.assertEqual(Quotient(found), Quotient(above, below))

    def test_tables_of_rank_refused(self):
        self.not_counts(lambda value: tables_of_rank(value, 2, 2), 0, 12)
        self.not_counts(lambda value: tables_of_rank(2, value, 2), 0, 12)
        self.not_counts(lambda value: tables_of_rank(2, 2, value), 0, 12)
        self.refuses(InvalidCount, tables_of_rank, 1, 13, -1, value=13)

    def test_rank_of_powers(self):
        one, other = Table(2, 2, 2, ((0, 1), (0, 0))), Table(2, 2, 2, ((1, 0), (0, 0)))
        self.assertEqual((one.rank, other.rank, one.times(one).rank, other.times(other).rank), (1, 1, 0, 1))


if __name__ == "__main__":
    unittest.main()
