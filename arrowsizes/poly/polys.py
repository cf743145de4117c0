"""Polynomials in q with integers, and their quotients."""

from arrowsizes.base.numbers import are_integers, check_count, check_integer, greatest_divisor, is_integer
from arrowsizes.base.numbers import lowest_terms
from arrowsizes.errors import InvalidOperation, InvalidPoly
from arrowsizes.poly.ratios import lowest_ratio, ratio_power, ratio_product, ratio_spread, ratio_sum, ratio_undone
from arrowsizes.poly.rows import power_row, product_row, row_text, shifted_row, spread_row, sum_row
from arrowsizes.poly.rows import trimmed, value_of

MOST_DEGREE = 100
_MOST_RAISED = 40
_MOST_SPREAD = 40
_MOST_GAUSS = 12
_MOST_TURNED = 9
_MOST_POWER = 100


class Poly:
    """A polynomial in q. It never changes."""

    def __init__(self, coefficients):
        if not are_integers(coefficients) or len(coefficients) > MOST_DEGREE + 1:
            raise InvalidPoly("no tuple of at most 101 integers")
        self._row = trimmed(coefficients)

    @property
    def coefficients(self):
        """The coefficients, the constant one first, without zeros at the end."""
        return self._row

    @property
    def degree(self):
        """The greatest power of q; -1 for 0."""
        return len(self._row) - 1

    @property
    def content(self):
        """The greatest integer that divides all coefficients; 0 for 0."""
        return greatest_divisor(self._row)

    def plus(self, other):
        """The sum with a polynomial or an integer."""
        return poly_of_row(sum_row(self._row, _row_told(other), 1))

    def minus(self, other):
        """This polynomial less a polynomial or an integer."""
        return poly_of_row(sum_row(self._row, _row_told(other), -1))

    def times(self, other):
        """The product with a polynomial or an integer."""
        return poly_of_row(product_row(self._row, _row_told(other)))

    def raised(self, many):
        """The power."""
        check_count(many, 0, _MOST_RAISED)
        return poly_of_row(power_row(self._row, many))

    def spread(self, many):
        """This polynomial with a power of q in the place of q."""
        check_count(many, 1, _MOST_SPREAD)
        return poly_of_row(spread_row(self._row, many))

    def at(self, number):
        """The value at an integer."""
        check_integer(number)
        return value_of(self._row, number)

    def __eq__(self, other):
        return isinstance(other, Poly) and self._row == other._row

    def __len__(self):
        return len(self._row)

    def __str__(self):
        return str(row_text(self._row))


def poly_of_row(row):
    """The polynomial with these coefficients, however many and long they are, the last one not 0."""
    made = Poly(())
    made._row = row
    return made


def _row_told(value):
    """The coefficients of a polynomial or an integer."""
    if isinstance(value, Poly):
        return value.coefficients
    if is_integer(value):
        return trimmed((value,))
    raise InvalidPoly("no polynomial and no integer")


class Quotient:
    """A quotient of polynomials in lowest terms. It never changes."""

    def __init__(self, top, bottom=1):
        top_row, bottom_row = _row_told(top), _row_told(bottom)
        if not bottom_row:
            raise InvalidOperation("the bottom is 0")
        self._ratio = lowest_ratio(top_row, bottom_row)
        self._top = poly_of_row(self._ratio[0])
        self._bottom = poly_of_row(self._ratio[1])

    @property
    def top(self):
        """The polynomial above, in lowest terms."""
        return self._top

    @property
    def bottom(self):
        """The polynomial below, in lowest terms."""
        return self._bottom

    @property
    def is_whole(self):
        """Whether the bottom is 1."""
        return self._ratio[1] == (1,)

    def plus(self, other):
        """The sum with a quotient, a polynomial or an integer."""
        return quotient_of_ratio(ratio_sum(self._ratio, _ratio_told(other), 1))

    def minus(self, other):
        """This quotient less a quotient, a polynomial or an integer."""
        return quotient_of_ratio(ratio_sum(self._ratio, _ratio_told(other), -1))

    def times(self, other):
        """The product with a quotient, a polynomial or an integer."""
        return quotient_of_ratio(ratio_product(self._ratio, _ratio_told(other)))

    def over(self, other):
        """This quotient divided by a quotient, a polynomial or an integer."""
        ratio = _ratio_told(other)
        if not ratio[0]:
            raise InvalidOperation("nothing is divided by 0")
        return quotient_of_ratio(ratio_product(self._ratio, ratio_undone(ratio)))

    def raised(self, many):
        """The power, which can be below 0."""
        check_count(many, -_MOST_RAISED, _MOST_RAISED)
        if many < 0 and not self._ratio[0]:
            raise InvalidOperation("nothing is divided by 0")
        return quotient_of_ratio(ratio_power(self._ratio, many))

    def spread(self, many):
        """This quotient with a power of q in the place of q."""
        check_count(many, 1, _MOST_SPREAD)
        return quotient_of_ratio(ratio_spread(self._ratio, many))

    def at(self, number):
        """The value at an integer, a fraction."""
        check_integer(number)
        bottom = value_of(self._ratio[1], number)
        if bottom == 0:
            raise InvalidOperation("the bottom is 0 there")
        return lowest_terms(value_of(self._ratio[0], number), bottom)

    def __eq__(self, other):
        return isinstance(other, Quotient) and self._ratio == other._ratio

    def __str__(self):
        top, bottom = row_text(self._ratio[0]), row_text(self._ratio[1])
        return str(top if self._ratio[1] == (1,) else f"({top})/({bottom})")


def quotient_of_ratio(ratio):
    """The quotient of a pair (top, bottom) of coefficients in lowest terms, however many and long they are."""
    made = Quotient(0)
    made._ratio = ratio
    made._top = poly_of_row(ratio[0])
    made._bottom = poly_of_row(ratio[1])
    return made


def _ratio_told(value):
    """The pair (top, bottom) of a quotient, a polynomial or an integer."""
    if isinstance(value, Quotient):
        return value._ratio
    return _row_told(value), (1,)


def gauss_row(top, low):
    """The coefficients of the Gauss number, of integers without bounds.

    The subspaces of a space are those inside a hyperplane, and q ** low kinds of others
    for each lesser one: so each Gauss number is a sum of two of the line above.
    """
    line = [(1,)] + [()] * low
    for _ in range(top):
        line = [(1,)] + [sum_row(line[at - 1], shifted_row(line[at], at), 1) for at in range(1, low + 1)]
    return line[low]


def turn_row(size):
    """The coefficients of the turn count, of an integer without bounds."""
    found = (1,)
    for power in range(1, size + 1):
        found = shifted_row(product_row(found, trimmed((-1,) + (0,) * (power - 1) + (1,))), power - 1)
    return found


def gauss(top, low):
    """The Gauss number of two integers, 0 if the second one is greater."""
    check_count(top, 0, _MOST_GAUSS)
    check_count(low, 0, _MOST_GAUSS)
    return poly_of_row(gauss_row(top, low))


def turn_count(size):
    """The number of the invertible square tables with so many rows, a polynomial."""
    check_count(size, 0, _MOST_TURNED)
    return poly_of_row(turn_row(size))


def power_of_q(many):
    """The power of q, a quotient; it can be below 0."""
    check_count(many, -_MOST_POWER, _MOST_POWER)
    power = shifted_row((1,), abs(many))
    return quotient_of_ratio((power, (1,)) if many >= 0 else ((1,), power))
