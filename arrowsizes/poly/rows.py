"""Coefficients, the constant one first, as tuples of integers of any length; the last one is never 0.

A row with many terms is reckoned with as one integer, its value at a power of 2, which tells
all coefficients that are less than half of that power. So Python's own integers do the work.
"""

from math import gcd

from arrowsizes.base.numbers import greatest_divisor

_SPARE_BITS = 10
_FEW_TERMS = 10


def trimmed(numbers):
    """The row without the zeros at the end."""
    many = len(numbers)
    while many and numbers[many - 1] == 0:
        many -= 1
    return tuple(numbers[:many])


def _lengthened(row, many):
    return list(row) + [0] * (many - len(row))


def sum_row(one, other, factor):
    """The first row and a multiple of the second one, added."""
    many = max(len(one), len(other))
    left, right = _lengthened(one, many), _lengthened(other, many)
    return trimmed([left[power] + factor * right[power] for power in range(many)])


def scaled_row(row, factor):
    """A multiple of the row."""
    return trimmed([number * factor for number in row])


def shifted_row(row, many):
    """The row, multiplied by a power of q."""
    return trimmed([0] * many + list(row))


def spread_row(row, many):
    """The row with a power of q in the place of q."""
    return trimmed([row[power // many] if power % many == 0 else 0 for power in range(many * len(row))])


def value_of(row, number):
    """The value of the row at an integer."""
    found = 0
    for coefficient in reversed(row):
        found = found * number + coefficient
    return found


def _bits_of(row):
    return max([number.bit_length() for number in row])


def _packed(row, bits):
    """The value of the row at 2 to the power bits."""
    parts = list(row)
    width = bits
    while len(parts) > 1:
        if len(parts) % 2 == 1:
            parts = parts + [0]
        parts = [low + (high << width) for low, high in zip(parts[::2], parts[1::2])]
        width = 2 * width
    return sum(parts)


def _unpacked(number, bits, many):
    """The list of so many coefficients, each less than half of 2 to the power bits, with this value there."""
    if many == 1:
        return [number]
    half = many // 2
    cut = bits * half
    low = number & ((1 << cut) - 1)
    if low >> (cut - 1):
        low = low - (1 << cut)
    high = (number - low) >> cut
    return _unpacked(low, bits, half) + _unpacked(high, bits, many - half)


def _row_packed_as(number, bits):
    return trimmed(_unpacked(number, bits, number.bit_length() // bits + 1))


def _terms_of(row):
    """The list of the pairs (power, coefficient) with a coefficient other than 0."""
    return [(power, number) for power, number in enumerate(row) if number]


def _product_by_terms(one_terms, other_terms, many):
    """The product, with so many coefficients, told by the terms of both rows."""
    found = [0] * many
    for power, number in one_terms:
        for other_power, factor in other_terms:
            found[power + other_power] += number * factor
    return tuple(found)


def _product_packed(one, other, many):
    """The product, with so many coefficients, told by values at a power of 2."""
    bits = _bits_of(one) + _bits_of(other) + min(len(one), len(other)).bit_length() + 1
    left = _packed(one, bits)
    right = left if one == other else _packed(other, bits)
    return tuple(_unpacked(left * right, bits, many))


def product_row(one, other):
    """The product of both rows."""
    if not one or not other:
        return ()
    one_terms, other_terms = _terms_of(one), _terms_of(other)
    many = len(one) + len(other) - 1
    if len(one_terms) * len(other_terms) <= _FEW_TERMS * many:
        return _product_by_terms(one_terms, other_terms, many)
    return _product_packed(one, other, many)


def product_of(rows):
    """The product of a list of rows."""
    found = (1,)
    for row in rows:
        found = product_row(found, row)
    return found


def power_row(row, many):
    """The product of so many factors that are all the row."""
    found = (1,)
    digits = f"{many:b}"
    for digit in digits:
        found = product_row(found, found)
        if digit == "1":
            found = product_row(found, row)
    return found


def row_without(row, factor):
    """The row, divided by an integer that divides all of it."""
    return tuple([number // factor for number in row])


def exact_row(row, part):
    """The row, divided by a part of it whose last coefficient is 1."""
    rest, found = list(row), []
    while len(rest) >= len(part):
        factor, begin = rest[-1], len(rest) - len(part)
        if factor:
            for at, number in enumerate(part):
                rest[begin + at] -= factor * number
        rest.pop()
        found.append(factor)
    return trimmed(found[::-1])


def _exact_quotient(row, part, bits):
    """The row divided by a part of it, or None if it is none, or if the bits do not suffice."""
    number, rest = divmod(_packed(row, bits), _packed(part, bits))
    if rest:
        return None
    found = _row_packed_as(number, bits)
    return found if product_row(found, part) == row else None


def _common_primitive(one, other, bits):
    """What may be the common divisor of both rows, as their values at 2 to the power bits tell it."""
    found = _row_packed_as(gcd(_packed(one, bits), _packed(other, bits)), bits)
    return row_without(found, greatest_divisor(found))


def common_row(one, other):
    """The triple of the greatest common divisor of two rows other than 0, and of both rows divided by it.

    A divisor of both rows that comes of values beyond twice the coefficients is the greatest
    one: a greater one would have another value there. With more bits it comes sooner or later.
    """
    shared = gcd(greatest_divisor(one), greatest_divisor(other))
    left, right = row_without(one, shared), row_without(other, shared)
    bits = max(_bits_of(left), _bits_of(right)) + _SPARE_BITS
    while True:
        common = _common_primitive(left, right, bits)
        if common == (1,):
            return (shared,), left, right
        over_left = _exact_quotient(left, common, bits)
        over_right = _exact_quotient(right, common, bits)
        if over_left is not None and over_right is not None:
            return scaled_row(common, shared), over_left, over_right
        bits = 2 * bits


def _term_text(coefficient, power):
    """The text of one term, without its sign."""
    size = abs(coefficient)
    if power == 0:
        return str(size)
    letter = "q" if power == 1 else f"q^{power}"
    return letter if size == 1 else f"{size}*{letter}"


def row_text(row):
    """The text of the row, from the greatest power of q on."""
    text = ""
    for power in reversed(range(len(row))):
        if row[power]:
            sign = " - " if row[power] < 0 else " + "
            text = text + sign + _term_text(row[power], power)
    if not text:
        return "0"
    return "-" + text[3:] if text.startswith(" - ") else text[3:]
