"""How many fillings of some sizes are steady for a weight, over a field of q elements, as coefficients of q.

All these functions check nothing.
"""

from arrowsizes.base.numbers import dot_row, is_below, is_zero_row, row_less, rows_to
from arrowsizes.poly.polys import gauss_row
from arrowsizes.poly.rows import product_of, shifted_row, sum_row


def is_steeper(weight, one, other):
    """Whether the mean of the one row, other than 0, is greater than that of the other one."""
    return dot_row(weight, one) * sum(other) > dot_row(weight, other) * sum(one)


def arrow_power(plan, starts, goals):
    """The sum, over all arrows, of the products of a size at the start and one at the goal."""
    return sum([starts[start] * goals[goal] for start, goal in plan.arrows])


def steady_top(plan, weight, sizes):
    """The number of the steady fillings of sizes other than 0, as coefficients.

    It is a sum over rows of sizes whose sums, but for the whole, are steeper than the whole. Here
    the last one of these sums is taken at a time: what leads to it is known by then. A filling with
    a part on which the sum stands is told by the part's spaces, the fillings of the part and of the
    rest, and the tables from the rest to the part.
    """
    gaussian = [[gauss_row(whole, low) for low in range(whole + 1)] for whole in range(max(sizes) + 1)]
    tops = {}
    for row in rows_to(sizes)[1:]:
        if row == sizes or is_steeper(weight, row, sizes):
            total = shifted_row((1,), arrow_power(plan, row, row))
            for part in [known for known in tops if is_below(known, row)]:
                ways = product_of([gaussian[whole][taken] for whole, taken in zip(row, part)])
                power = arrow_power(plan, row_less(row, part), row)
                total = sum_row(total, shifted_row(product_of([ways, tops[part]]), power), -1)
            tops[row] = total
    return tops[sizes]


def _types_from(plan, weight, rows, rest, last):
    """The list of all tuples of some rows with this sum whose means fall, from below that of the last row on.

    There are no more members than rows, and sums are few, so all ways are gone through.
    """
    if is_zero_row(rest):
        return [()]
    found = []
    for row in rows:
        if is_below(row, rest) and (last is None or is_steeper(weight, last, row)):
            longer = _types_from(plan, weight, rows, row_less(rest, row), row)
            found = found + [(row,) + others for others in longer]
    return found


def falling_rows(plan, weight, rows, sizes):
    """The ascending list of all tuples of some rows with this sum whose means fall; `rows` is ascending."""
    return _types_from(plan, weight, rows, sizes, None)
