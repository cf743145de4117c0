"""Quotients of rows of coefficients as pairs (top, bottom) in lowest terms, the bottom's leading number above 0."""

from arrowsizes.poly.rows import common_row, power_row, product_row, scaled_row, spread_row, sum_row

ZERO_RATIO = ((), (1,))


def _upright(top, bottom):
    """The pair with a leading number above 0 at the bottom."""
    if bottom[-1] < 0:
        return scaled_row(top, -1), scaled_row(bottom, -1)
    return top, bottom


def lowest_ratio(top, bottom):
    """The quotient of a row and a row other than 0."""
    if not top:
        return ZERO_RATIO
    _, left, right = common_row(top, bottom)
    return _upright(left, right)


def ratio_sum(one, other, factor):
    """The first quotient and a multiple of the second one, added.

    Only what both bottoms share can be left to divide out, so the divisors stay short.
    """
    shared, one_rest, other_rest = common_row(one[1], other[1])
    top = sum_row(product_row(one[0], other_rest), product_row(other[0], one_rest), factor)
    if not top:
        return ZERO_RATIO
    _, top, shared = common_row(top, shared)
    return top, product_row(shared, product_row(one_rest, other_rest))


def ratio_product(one, other):
    """The product of both quotients."""
    if not one[0] or not other[0]:
        return ZERO_RATIO
    _, one_top, other_bottom = common_row(one[0], other[1])
    _, other_top, one_bottom = common_row(other[0], one[1])
    return product_row(one_top, other_top), product_row(one_bottom, other_bottom)


def ratio_undone(ratio):
    """The quotient of 1 and a quotient other than 0."""
    return _upright(ratio[1], ratio[0])


def ratio_power(ratio, many):
    """The power of a quotient; a power of lowest terms is in lowest terms."""
    if many < 0:
        return ratio_power(ratio_undone(ratio), -many)
    return power_row(ratio[0], many), power_row(ratio[1], many)


def ratio_spread(ratio, many):
    """The quotient with a power of q in the place of q, which stays in lowest terms."""
    return spread_row(ratio[0], many), spread_row(ratio[1], many)
