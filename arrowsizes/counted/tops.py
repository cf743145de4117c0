"""Series of quotients that have the turns of a row as their bottom: the product of the turn counts of its sizes.

An entry is told by its top, coefficients of q. Shares are sixty times such tops, so that
they have integers where powers of series are divided by integers from 1 to 6.
"""

from arrowsizes.base.lots import SHARES, place_of
from arrowsizes.base.numbers import all_choices, greatest_divisor, row_less, row_over, rows_to
from arrowsizes.poly.polys import gauss_row, turn_row
from arrowsizes.poly.rows import exact_row, product_of, product_row, row_without, scaled_row, shifted_row
from arrowsizes.poly.rows import spread_row, sum_row
from arrowsizes.slices.partitions import partitions, product_number, tables_with


def turns_row(sizes):
    """The turns of a row of sizes."""
    return product_of([turn_row(size) for size in sizes])


def _power_less_one(power):
    """The coefficients of a power of q, from the first one on, less 1."""
    return (-1,) + (0,) * (power - 1) + (1,)


class PairRows:
    """The turns of a row, divided by those of a part of it and of the rest, for rows up to a bound."""

    def __init__(self, bound):
        most = max(bound)
        self._factors = {}
        for whole in range(most + 1):
            for part in range(whole + 1):
                self._factors[whole, part] = shifted_row(gauss_row(whole, part), part * (whole - part))

    def at(self, row, part):
        """The coefficients for a row and a part of it."""
        return product_of([self._factors[pair] for pair in zip(row, part)])


def _rate_row(pairs, row, shares, tops):
    """The top at the row of the sum of all products of a share at f, times f at the place of the row, and a top."""
    place, total = place_of(row), ()
    for part, share in shares.items():
        rest = row_less(row, part)
        if part[place] > 0 and rest in tops:
            product = product_row(product_row(share, tops[rest]), pairs.at(row, part))
            total = sum_row(total, product, part[place])
    return total


def _share_row(row, parts, power):
    """The share at a row: the sum over all k of the parts at the row divided by k, over q - 1, times 60 / k.

    They are multiplied by a power of q, and q ** k stands in the place of q. A row without a part counts as 0.
    """
    total, shared, turns = (), greatest_divisor(row), turns_row(row)
    for many in range(1, shared + 1):
        if shared % many == 0 and row_over(row, many) in parts:
            spread = shifted_row(spread_row(parts[row_over(row, many)], many), many * power)
            product = product_row(spread, exact_row(turns, _power_less_one(many)))
            total = sum_row(total, product, SHARES // many)
    return total


def _tables_by_parts(most):
    """For each number up to the greatest one the pairs of its partitions and of how many tables have them."""
    found = []
    for size in range(most + 1):
        found.append([(parts, tables_with(parts).coefficients) for parts in partitions(size)])
    return found


def _top_at(plan, row, options):
    """The top at a row of the sums over partitions."""
    total = ()
    for chosen in all_choices([options[size] for size in row]):
        power = sum([product_number(chosen[start][0], chosen[goal][0]) for start, goal in plan.arrows])
        total = sum_row(total, shifted_row(product_of([tables for _, tables in chosen]), power), 1)
    return total


def partition_top(plan, sizes):
    """The top of the sum over partitions of the sizes."""
    return _top_at(plan, sizes, _tables_by_parts(max(sizes)))


def firm_rows(plan, bound):
    """The dict from all rows up to the bound other than 0 to the coefficients of their polynomials."""
    options, rows = _tables_by_parts(max(bound)), rows_to(bound)
    tops = {row: _top_at(plan, row, options) for row in rows}
    pairs, shares, found = PairRows(bound), {}, {}
    for row in rows[1:]:
        rate = _rate_row(pairs, row, shares, tops)
        share = sum_row(scaled_row(tops[row], SHARES), row_without(rate, row[place_of(row)]), -1)
        shares[row] = share
        top = product_row(sum_row(share, _share_row(row, found, 0), -1), (-1, 1))
        found[row] = row_without(exact_row(top, turns_row(row)), SHARES)
    return found


def pair_top(plan, sizes):
    """The top at the sizes of the exponential that tells the numbers of zero pairs."""
    parts, pairs, shares = firm_rows(plan, sizes), PairRows(sizes), {}
    rows = rows_to(sizes)
    tops = {rows[0]: (1,)}
    for row in rows[1:]:
        shares[row] = _share_row(row, parts, 1)
        tops[row] = row_without(_rate_row(pairs, row, shares, tops), SHARES * row[place_of(row)])
    return tops[sizes]
