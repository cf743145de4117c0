"""Pairs of fillings, one of a plan and one of the opposite plan, and the numbers that their sums tell."""

from arrowsizes.base.checks import check_prime
from arrowsizes.base.numbers import is_zero_row, power_of
from arrowsizes.chart.plans import check_plan, check_sizes, check_weight
from arrowsizes.counted.counts import check_few
from arrowsizes.counted.tops import pair_top
from arrowsizes.errors import InvalidFilling, InvalidOperation, TooMany
from arrowsizes.fill.fillings import Filling, ext_number, filling_of_rows, is_hom, tables_of_maps
from arrowsizes.fill.homs import hom_maps, maps_of
from arrowsizes.fixed.orbits import fillings_number, kinds_with_numbers
from arrowsizes.grid.columns import solution
from arrowsizes.grid.tables import idle_table, zero_table
from arrowsizes.poly.polys import poly_of_row
from arrowsizes.poly.rows import shifted_row

MAX_PAIRED = 4096
MAX_LIFTED = 12
_LIFT = "lift"
_HOM = "hom"


def _check_filling(filling):
    if not isinstance(filling, Filling) or filling.total > MAX_LIFTED:
        raise InvalidFilling("no filling whose sizes add up to at most 12")


def _is_mate(filling, value):
    """Whether the value is a filling that can be paired with a filling."""
    if not isinstance(value, Filling) or value.plan != filling.plan.opposite():
        return False
    return value.prime == filling.prime and value.sizes == filling.sizes


def _check_mate(filling, other):
    if not _is_mate(filling, other):
        raise InvalidFilling("no filling of the opposite plan with the same prime and sizes")


def _pair_sums(filling, other):
    """The list of the sums of a pair at all points."""
    found = [zero_table(filling.prime, size, size) for size in filling.sizes]
    for (start, goal), table, back in zip(filling.plan.arrows, filling.tables, other.tables):
        found[goal] = found[goal].plus(table.times(back))
        found[start] = found[start].minus(back.times(table))
    return found


def pair_sums(filling, other):
    """The tuple of the sums of a pair at all points."""
    _check_filling(filling)
    _check_mate(filling, other)
    return tuple(_pair_sums(filling, other))


def _is_told(filling, other, numbers):
    """Whether a pair is told by the numbers."""
    idle = [idle_table(filling.prime, size) for size in filling.sizes]
    return _pair_sums(filling, other) == [table.scaled(number) for table, number in zip(idle, numbers)]


def is_pair_told(filling, other, numbers):
    """Whether a pair is told by the numbers."""
    _check_filling(filling)
    _check_mate(filling, other)
    check_weight(filling.plan, numbers)
    return _is_told(filling, other, numbers)


def _check_lifted(filling, numbers):
    _check_filling(filling)
    check_weight(filling.plan, numbers)


def _starts_of(plan, sizes):
    """The places of the first entries of all tables of a mate in one row of all its entries, and how many these are."""
    starts, many = [], 0
    for start, goal in plan.arrows:
        starts.append(many)
        many = many + sizes[start] * sizes[goal]
    return starts, many


def _sum_equation(filling, starts, many, point, place):
    """The factors with which a mate's entries make the entry of the sum at a point and a place (row, column)."""
    row, column = place
    entries = [0] * many
    for begin, (start, goal), table in zip(starts, filling.plan.arrows, filling.tables):
        wide = filling.sizes[goal]
        if goal == point:
            for inner, residue in enumerate(table.rows[row]):
                entries[begin + inner * wide + column] = residue
        if start == point:
            for inner, line in enumerate(table.rows):
                entries[begin + row * wide + inner] = -line[column] % filling.prime
    return tuple(entries)


def _lift_entries(filling, numbers):
    """All entries of any lift, or None if there is none."""
    starts, many = _starts_of(filling.plan, filling.sizes)
    rows, wanted = [], []
    for point, size in enumerate(filling.sizes):
        for place in [(row, column) for row in range(size) for column in range(size)]:
            rows.append(_sum_equation(filling, starts, many, point, place))
            wanted.append(numbers[point] % filling.prime if place[0] == place[1] else 0)
    return solution(filling.prime, rows, many, tuple(wanted))


def _lift_of(filling, entries):
    """The lift with these entries."""
    sides = [(filling.sizes[start], filling.sizes[goal]) for start, goal in filling.plan.arrows]
    return filling_of_rows(filling.plan.opposite(), filling.prime, filling.sizes, maps_of(entries, sides))


def _trace_sum(prime, numbers, maps):
    """The sum of the traces of an endomorphism at all points, multiplied by the numbers."""
    total = 0
    for number, rows in zip(numbers, maps):
        total = total + number * sum([row[at] for at, row in enumerate(rows)])
    return total % prime


def lift_paper(filling, numbers):
    """Any lift, or, if there is none, any hom that shows it, behind a word that tells which it is."""
    _check_lifted(filling, numbers)
    entries = _lift_entries(filling, numbers)
    if entries is not None:
        return _LIFT, _lift_of(filling, entries)
    shown = [maps for maps in hom_maps(filling, filling) if _trace_sum(filling.prime, numbers, maps) > 0]
    return _HOM, tables_of_maps(filling, filling, shown[0])


def is_lift_paper(filling, numbers, value):
    """Whether the value is such a paper."""
    _check_lifted(filling, numbers)
    if not isinstance(value, tuple) or len(value) != 2:
        return False
    kind, shown = value
    if kind == _LIFT:
        return _is_mate(filling, shown) and _is_told(filling, shown, numbers)
    if kind != _HOM or not is_hom(filling, filling, shown):
        return False
    return _trace_sum(filling.prime, numbers, [table.rows for table in shown]) > 0


def _lifts_number(filling, numbers):
    if _lift_entries(filling, numbers) is None:
        return 0
    return power_of(filling.prime, ext_number(filling, filling))


def lifts_number(filling, numbers):
    """How many lifts there are."""
    _check_lifted(filling, numbers)
    return _lifts_number(filling, numbers)


def _check_told(plan, prime, sizes, numbers):
    check_plan(plan)
    check_prime(prime)
    check_sizes(plan, sizes)
    check_weight(plan, numbers)


def are_general(plan, prime, sizes, numbers):
    """Whether the numbers are general: the prime divides the sums for 0 and the sizes, and for no row between.

    So it is enough to know the sum for the sizes, and how many rows have sums that the prime divides.
    """
    _check_told(plan, prime, sizes, numbers)
    if is_zero_row(sizes):
        raise InvalidOperation("the sizes are all 0")
    many = [1] + [0] * (prime - 1)
    for size, number in zip(sizes, numbers):
        many = [sum([many[(rest - part * number) % prime] for part in range(size + 1)]) for rest in range(prime)]
    total = sum([size * number for size, number in zip(sizes, numbers)])
    return total % prime == 0 and many[0] == 2


def pairs_number(plan, prime, sizes, numbers):
    """How many pairs are told by the numbers, over all fillings with these sizes.

    Alike fillings have equally many lifts.
    """
    _check_told(plan, prime, sizes, numbers)
    if fillings_number(plan, prime, sizes) > MAX_PAIRED:
        raise TooMany(MAX_PAIRED)
    total = 0
    for tables, many in kinds_with_numbers(plan, prime, sizes):
        total = total + many * _lifts_number(filling_of_rows(plan, prime, sizes, tables), numbers)
    return total


def pairs_poly(plan, sizes):
    """The polynomial whose values at primes are the numbers of zero pairs."""
    check_sizes(plan, sizes)
    check_few(sizes)
    top, norm = pair_top(plan, sizes), plan.norm(sizes)
    return poly_of_row(top[norm:] if norm > 0 else shifted_row(top, -norm))
