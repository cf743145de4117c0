"""Fillings, homs and spaces that several tests use."""

import itertools
import random

from arrowsizes.chart.plans import Plan
from arrowsizes.fill.fillings import Filling
from arrowsizes.grid.tables import Table, idle_table
from tests.test_plans import APART, BENT, FULL, POINT, RING, STAR, THRICE, TWINS
from tests.test_tables import PRIMES, some_table, sums_of

BOTH_WAYS = Plan(2, ((0, 1), (1, 0)))
BARE = Plan(2, ())
PLANS = (TWINS, THRICE, STAR, BENT, RING, POINT, APART, FULL, BOTH_WAYS, BARE, Plan.line(3), Plan.line(6), Plan.star(5))


def columns_of(prime, height):
    return list(itertools.product(range(prime), repeat=height))


def table_at_random(source, prime, height, width):
    return some_table(source, prime, height, width)


def some_sizes(source, plan, most, total):
    """Sizes that look random, with a sum that is not above the total."""
    while True:
        sizes = tuple([source.randint(0, most) for _ in range(plan.size)])
        if sum(sizes) <= total:
            return sizes


def some_filling(source, plan, prime, sizes):
    tables = [table_at_random(source, prime, sizes[goal], sizes[start]) for start, goal in plan.arrows]
    return Filling(plan, prime, sizes, tuple(tables))


def some_fillings(seed, many, most=3, total=8, plans=PLANS):
    source = random.Random(seed)
    found = []
    for _ in range(many):
        plan = source.choice(plans)
        found.append(some_filling(source, plan, source.choice(PRIMES), some_sizes(source, plan, most, total)))
    return found


def some_pairs(seed, many, most=3, total=6, plans=PLANS):
    """Pairs of fillings that go together."""
    source = random.Random(seed)
    found = []
    for _ in range(many):
        plan, prime = source.choice(plans), source.choice(PRIMES)
        found.append(tuple([some_filling(source, plan, prime, some_sizes(source, plan, most, total)) for _ in range(2)]))
    return found


def some_turn(source, prime, size):
    while True:
        rows = tuple([tuple([source.randrange(prime) for _ in range(size)]) for _ in range(size)])
        if Table(prime, size, size, rows).is_turn:
            return Table(prime, size, size, rows)


def some_turns(source, filling):
    return tuple([some_turn(source, filling.prime, size) for size in filling.sizes])


def all_tables(prime, height, width):
    rows = columns_of(prime, width)
    return [Table(prime, height, width, told) for told in itertools.product(rows, repeat=height)]


def all_fillings(plan, prime, sizes):
    options = [all_tables(prime, sizes[goal], sizes[start]) for start, goal in plan.arrows]
    return [Filling(plan, prime, sizes, tables) for tables in itertools.product(*options)]


def all_turns(prime, sizes):
    options = [[table for table in all_tables(prime, size, size) if table.is_turn] for size in sizes]
    return list(itertools.product(*options))


def all_homs(one, other):
    """All homs, found among all tuples of tables."""
    options = [all_tables(one.prime, high, wide) for high, wide in zip(other.sizes, one.sizes)]
    found = []
    for tables in itertools.product(*options):
        if all([tables[j].times(x) == y.times(tables[i]) for (i, j), x, y in zip(one.plan.arrows, one.tables, other.tables)]):
            found.append(tables)
    return found


def keys_of(homs):
    return sorted([tuple([table.rows for table in hom]) for hom in homs])


def all_space_rows(filling):
    """The bases of all spaces at all points, by all lots of columns."""
    options = []
    for size in filling.sizes:
        found = {}
        for many in range(size + 1):
            for lot in itertools.combinations([column for column in columns_of(filling.prime, size) if any(column)], many):
                members = frozenset(sums_of(filling.prime, size, lot))
                if len(members) == filling.prime ** many:
                    found.setdefault(members, lot)
        options.append(list(found.values()))
    return list(itertools.product(*options))


def idle(filling):
    return tuple([idle_table(filling.prime, size) for size in filling.sizes])


def companion(prime, numbers):
    """The square table whose powers meet x ** n + numbers[n - 1] * x ** (n - 1) + .. = 0."""
    size = len(numbers)
    rows = []
    for row in range(size):
        rows.append(tuple([-numbers[row] % prime if column == size - 1 else int(row == column + 1) for column in range(size)]))
    return Table(prime, size, size, tuple(rows))


def round_filling(prime, numbers, many=1):
    """The filling of twins with the idle table, and so many blocks of a companion table with idle tables above them."""
    block, size = companion(prime, numbers), len(numbers)
    whole = size * many
    rows = [[0] * whole for _ in range(whole)]
    for at in range(many):
        for row in range(size):
            for column in range(size):
                rows[at * size + row][at * size + column] = block.rows[row][column]
            if at + 1 < many:
                rows[at * size + row][(at + 1) * size + row] = 1
    table = Table(prime, whole, whole, tuple([tuple(row) for row in rows]))
    return Filling(TWINS, prime, (whole, whole), (idle_table(prime, whole), table))


# x ** n + .. without factors, by primes.
FIELDS = {2: ((1, 1), (1, 1, 0), (1, 0, 1), (1, 1, 0, 0), (1, 1, 0, 0, 0, 0)), 3: ((1, 0), (2, 1), (1, 2, 0)), 5: ((2, 0), (3, 0)), 7: ((1, 0), (3, 1))}
