"""One polynomial for each row of sizes, by sums over partitions, and the numbers of kinds that it tells."""

from arrowsizes.base.lots import SHARES, lots_of_parts, lots_of_shares, parts_of_lots
from arrowsizes.base.numbers import all_choices, check_count, divisors, greatest_divisor, is_integer, is_row
from arrowsizes.base.numbers import is_zero_row, moebius, power_of, row_count, row_over, rows_to
from arrowsizes.chart.plans import Plan, check_plan, check_sizes
from arrowsizes.counted.tops import firm_rows, partition_top, turns_row
from arrowsizes.errors import InvalidSizes, TooMany
from arrowsizes.poly.polys import Quotient, poly_of_row
from arrowsizes.poly.rows import power_row, sum_row, value_of
from arrowsizes.slices.partitions import partitions

MOST_ROWS = 400
MOST_FIELD = 100
_LEAST_FIELD = 2
_MOST_DIGITS = 60


def _check_some(plan, sizes):
    """Raise InvalidSizes also for sizes that are all 0."""
    check_sizes(plan, sizes)
    if is_zero_row(sizes):
        raise InvalidSizes("the sizes are all 0")


def check_few(sizes):
    """Raise TooMany if there are too many rows of partitions of numbers up to the sizes."""
    many = 1
    for size in sizes:
        many = many * sum([len(partitions(number)) for number in range(size + 1)])
    if many > MOST_ROWS:
        raise TooMany(MOST_ROWS)


def partition_sum(plan, sizes):
    """The sum over all rows of partitions of the sizes, a quotient."""
    check_sizes(plan, sizes)
    check_few(sizes)
    return Quotient(poly_of_row(partition_top(plan, sizes)), poly_of_row(turns_row(sizes)))


def firm_poly(plan, sizes):
    """The polynomial of the sizes: its values are the numbers of the firm kinds."""
    _check_some(plan, sizes)
    check_few(sizes)
    return poly_of_row(firm_rows(plan, sizes)[sizes])


def firm_polys(plan, sizes):
    """The dict from all rows other than 0 up to the sizes to their polynomials, ascending."""
    _check_some(plan, sizes)
    check_few(sizes)
    return {row: poly_of_row(found) for row, found in firm_rows(plan, sizes).items()}


def _share_at(row, polys, number):
    """The sum over all k of the value of the polynomial at the row divided by k, at the power k, times 60 / k."""
    total = 0
    for many in divisors(greatest_divisor(row)):
        total = total + SHARES // many * value_of(polys[row_over(row, many)], power_of(number, many))
    return total


def kinds_at(plan, sizes, number):
    """The number of kinds of the sizes over a field with so many elements."""
    check_sizes(plan, sizes)
    check_count(number, _LEAST_FIELD, MOST_FIELD)
    check_few(sizes)
    polys = firm_rows(plan, sizes)
    shares = {row: _share_at(row, polys, number) for row in polys}
    return lots_of_shares(sizes, shares)[sizes]


def unsplittable_at(plan, sizes, number):
    """The number of unsplittable kinds of the sizes over a field with so many elements."""
    _check_some(plan, sizes)
    check_count(number, _LEAST_FIELD, MOST_FIELD)
    check_few(sizes)
    polys, total = firm_rows(plan, sizes), 0
    for degree in divisors(greatest_divisor(sizes)):
        part = polys[row_over(sizes, degree)]
        for many in divisors(degree):
            sign = moebius(degree // many)
            total = total + SHARES // degree * sign * value_of(part, power_of(number, many))
    return total // SHARES


def _joining_sets(plan):
    """The ascending list of the sets of arrows by which all points hang together."""
    found = []
    for chosen in all_choices([(False, True)] * len(plan.arrows)):
        places = tuple([at for at, is_taken in enumerate(chosen) if is_taken])
        if len(Plan(plan.size, tuple([plan.arrows[at] for at in places])).pieces()) == 1:
            found.append(places)
    return sorted(found)


def joining_poly(plan):
    """The polynomial of sizes of ones, by sets of arrows alone."""
    check_plan(plan)
    total = ()
    for places in _joining_sets(plan):
        total = sum_row(total, power_row((-1, 1), len(places) - plan.size + 1), 1)
    return poly_of_row(total)


def joining_sets(plan):
    """The ascending tuple of the sets of arrows by which all points hang together, each one by their indices."""
    check_plan(plan)
    return tuple(_joining_sets(plan))


def _bound_of(rows):
    """The greatest integers of some rows of one length, or None if the rows are none."""
    if not rows or not all([is_row(row) for row in rows]):
        return None
    if any([len(row) != len(rows[0]) for row in rows]):
        return None
    return tuple([max([row[at] for row in rows]) for at in range(len(rows[0]))])


def _bound_told(value, first):
    """The greatest row of a dict from all rows up to it, from an index on, to integers; InvalidSizes for others."""
    if not isinstance(value, dict):
        raise InvalidSizes("no dict")
    bound = _bound_of(list(value))
    if bound is None or is_zero_row(bound) or row_count(bound) > MOST_ROWS:
        raise InvalidSizes("no rows up to a row other than 0, or too many of them")
    rows = rows_to(bound)[first:]
    if len(value) != len(rows) or not all([row in value and is_integer(value[row]) for row in rows]):
        raise InvalidSizes("no integers for just these rows")
    return bound


def _check_digits(numbers):
    if not all([is_integer(number) for number in numbers]):
        raise TooMany(_MOST_DIGITS)


def taken_apart(kinds):
    """The dict of the numbers of unsplittable kinds that make these numbers of kinds."""
    bound = _bound_told(kinds, 0)
    if kinds[(0,) * len(bound)] != 1:
        raise InvalidSizes("the integer at the row of zeros is not 1")
    found = parts_of_lots(bound, kinds)
    _check_digits(list(found.values()))
    return found


def put_together(parts):
    """The dict of the numbers of kinds that these numbers of unsplittable kinds make."""
    bound = _bound_told(parts, 1)
    found = lots_of_parts(bound, parts)
    _check_digits(list(found.values()))
    return found
