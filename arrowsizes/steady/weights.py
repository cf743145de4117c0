"""Means of sizes for a weight, and the fillings in which no sub has a greater one."""

from arrowsizes.base.numbers import dot_row, is_zero_row, lowest_terms, row_count
from arrowsizes.base.numbers import row_less, row_plus
from arrowsizes.chart.plans import check_plan, check_sizes, check_weight, is_sizes
from arrowsizes.counted.tops import turns_row
from arrowsizes.errors import InvalidOperation, InvalidSizes, TooMany
from arrowsizes.fill.fillings import check_filling
from arrowsizes.fill.subs import subs_among
from arrowsizes.general.generals import check_general
from arrowsizes.general.sitting import sitting_rows
from arrowsizes.grid.columns import all_bases
from arrowsizes.poly.polys import Quotient, gauss_row, poly_of_row
from arrowsizes.poly.rows import product_of, shifted_row, value_of
from arrowsizes.steady.shares import arrow_power, falling_rows, is_steeper, steady_top

MAX_STEADY = 14
MAX_CHAINS = 100
MAX_TRIED = 4096
_MOST_PARTS = 6


def _check_some(plan, sizes):
    check_sizes(plan, sizes)
    if is_zero_row(sizes):
        raise InvalidSizes("the sizes are all 0")


def _check_weighed(plan, weight, sizes):
    check_plan(plan)
    check_weight(plan, weight)
    _check_some(plan, sizes)


def _check_steady(plan, weight, sizes):
    _check_weighed(plan, weight, sizes)
    check_general(plan, [sizes])


def _check_chains(sizes):
    if row_count(sizes) > MAX_CHAINS:
        raise TooMany(MAX_CHAINS)


def mean_of(plan, weight, sizes):
    """The mean, a fraction."""
    _check_weighed(plan, weight, sizes)
    return lowest_terms(dot_row(weight, sizes), sum(sizes))


def _steeper_ones(weight, sizes, inner):
    """The list of those rows other than 0 of an ascending list that have a greater mean than the sizes."""
    return [row for row in inner[1:] if is_steeper(weight, row, sizes)]


def _barring_rows(plan, weight, sizes):
    return _steeper_ones(weight, sizes, sitting_rows(plan, sizes)[sizes])


def has_steady(plan, weight, sizes):
    """Whether there are steady fillings over an algebraically closed field."""
    _check_steady(plan, weight, sizes)
    return not _barring_rows(plan, weight, sizes)


def has_hard(plan, weight, sizes):
    """Whether there are hard fillings over an algebraically closed field."""
    _check_steady(plan, weight, sizes)
    inner = sitting_rows(plan, sizes)[sizes]
    return all([is_steeper(weight, sizes, row) for row in inner[1:-1]])


def barring_row(plan, weight, sizes):
    """Any row that sits in the sizes and has a greater mean, or None if there are steady fillings."""
    _check_steady(plan, weight, sizes)
    rows = _barring_rows(plan, weight, sizes)
    return rows[0] if rows else None


def is_barring_row(plan, weight, sizes, value):
    """Whether the value is such a row."""
    _check_steady(plan, weight, sizes)
    return is_sizes(plan, value) and value in _barring_rows(plan, weight, sizes)


def _share(top, bottom, power):
    """The quotient of two rows of coefficients, times a power of q, which can be below 0."""
    return Quotient(poly_of_row(shifted_row(top, max(power, 0))), poly_of_row(shifted_row(bottom, max(-power, 0))))


def whole_share(plan, sizes):
    """The share of all fillings."""
    _check_some(plan, sizes)
    return _share((1,), turns_row(sizes), arrow_power(plan, sizes, sizes))


def steady_share(plan, weight, sizes):
    """The share of the steady fillings."""
    _check_weighed(plan, weight, sizes)
    _check_chains(sizes)
    return _share(steady_top(plan, weight, sizes), turns_row(sizes), 0)


def _is_falling(plan, weight, value):
    """Whether the value is a tuple of 1 to 6 sizes, each not all 0, whose means fall."""
    if not isinstance(value, tuple) or not 1 <= len(value) <= _MOST_PARTS:
        return False
    if not all([is_sizes(plan, row) and not is_zero_row(row) for row in value]):
        return False
    return all([is_steeper(weight, value[at], value[at + 1]) for at in range(len(value) - 1)])


def _sum_of(rows):
    """The sum of some rows, at least one."""
    found = rows[0]
    for row in rows[1:]:
        found = row_plus(found, row)
    return found


def type_share(plan, weight, parts):
    """The share of the fillings with a type."""
    check_plan(plan)
    check_weight(plan, weight)
    if not _is_falling(plan, weight, parts) or not is_sizes(plan, _sum_of(parts)):
        raise InvalidSizes("no row of sizes whose means fall")
    _check_chains(_sum_of(parts))
    power = 0
    for at, row in enumerate(parts):
        power = power - sum([plan.form(row, other) for other in parts[:at]])
    tops = [steady_top(plan, weight, row) for row in parts]
    return _share(product_of(tops), product_of([turns_row(row) for row in parts]), power)


def types_of(plan, weight, sizes):
    """The ascending tuple of all types of fillings over an algebraically closed field."""
    _check_steady(plan, weight, sizes)
    _check_chains(sizes)
    sitting = list(sitting_rows(plan, sizes).items())
    rows = [row for row, inner in sitting[1:] if not _steeper_ones(weight, row, inner)]
    return tuple(falling_rows(plan, weight, rows, sizes))


def _spaces_number(prime, height):
    """The number of all spaces of a height."""
    return sum([value_of(gauss_row(height, number), prime) for number in range(height + 1)])


def _check_tried(filling, weight):
    check_filling(filling)
    check_weight(filling.plan, weight)
    if is_zero_row(filling.sizes):
        raise InvalidOperation("the sizes are all 0")
    many = 1
    for size in filling.sizes:
        many = many * _spaces_number(filling.prime, size)
    if many > MAX_TRIED:
        raise TooMany(MAX_TRIED)


def _all_spaces(prime, height):
    """The list of the bases of all spaces of a height."""
    return [base for number in range(height + 1) for base in all_bases(prime, height, number)]


def _sub_sizes(filling):
    """The ascending list of the sizes of all subs, each one once."""
    options = [_all_spaces(filling.prime, size) for size in filling.sizes]
    found = {}
    for spaces in subs_among(filling, options):
        found[tuple([len(columns) for columns in spaces])] = True
    return sorted(list(found))


def _steepest(weight, rows, begin):
    """That one of some rows to which it goes up most steeply from another row with a lesser sum, and farthest so."""
    best = None
    for row in rows:
        step = row_less(row, begin)
        if sum(step) > 0:
            last = None if best is None else row_less(best, begin)
            if last is None or is_steeper(weight, step, last):
                best = row
            elif not is_steeper(weight, last, step) and sum(step) > sum(last):
                best = row
    return best


def type_of_filling(filling, weight):
    """The type of a filling: it climbs, by sizes of subs, always as steeply as it can."""
    _check_tried(filling, weight)
    rows, found, begin = _sub_sizes(filling), [], (0,) * filling.plan.size
    while begin != filling.sizes:
        goal = _steepest(weight, rows, begin)
        found.append(row_less(goal, begin))
        begin = goal
    return tuple(found)


def is_steady_filling(filling, weight):
    """Whether no sub other than 0 has a greater mean."""
    _check_tried(filling, weight)
    return not _steeper_ones(weight, filling.sizes, _sub_sizes(filling))


def is_hard_filling(filling, weight):
    """Whether all subs other than 0 and all have lesser means."""
    _check_tried(filling, weight)
    return all([is_steeper(weight, filling.sizes, row) for row in _sub_sizes(filling)[1:-1]])
