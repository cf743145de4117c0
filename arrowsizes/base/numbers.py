"""Integers, names, fractions and rows of sizes."""

from math import comb, gcd, isqrt

from arrowsizes.errors import InvalidCount, InvalidOperation, InvalidSizes, TooMany

MAX_NAME = 8
MAX_FACTORED = 10 ** 9
MAX_CHOSEN = 1000
MAX_BELOW = 3000
_BEYOND_DIGITS = 10 ** 60
_LETTERS = "abcdefghijklmnopqrstuvwxyz"
_LONGEST_ROW = 6
_GREATEST_SIZE = 6


def is_integer(value):
    """Whether the value is an integer of at most sixty digits."""
    return isinstance(value, int) and not isinstance(value, bool) and abs(value) < _BEYOND_DIGITS


def is_count(value, low, high):
    """Whether the value is an integer from one bound to the other."""
    return is_integer(value) and low <= value <= high


def check_integer(value):
    """Raise InvalidCount unless the value is an integer."""
    if not is_integer(value):
        raise InvalidCount(value)


def check_count(value, low, high):
    """Raise InvalidCount unless the value is an integer from one bound to the other."""
    if not is_count(value, low, high):
        raise InvalidCount(value)


def are_integers(value):
    """Whether the value is a tuple of integers."""
    return isinstance(value, tuple) and all([is_integer(number) for number in value])


def are_counts(value, low, high):
    """Whether the value is a tuple of integers from one bound to the other."""
    return isinstance(value, tuple) and all([is_count(number, low, high) for number in value])


def is_row(value):
    """Whether the value is a row of sizes."""
    return are_counts(value, 0, _GREATEST_SIZE) and 1 <= len(value) <= _LONGEST_ROW


def is_name(value):
    """Whether the value is a string of one to eight letters a to z."""
    if not isinstance(value, str) or not 1 <= len(value) <= MAX_NAME:
        return False
    return all([letter in _LETTERS for letter in value])


def _least_factor(number):
    """The least prime that divides an integer above 1."""
    for factor in range(2, isqrt(number) + 1):
        if number % factor == 0:
            return factor
    return number


def is_prime(value):
    """Whether the value is a prime number of at most 10 ** 9."""
    return is_count(value, 2, MAX_FACTORED) and _least_factor(value) == value


def greatest_divisor(numbers):
    """The greatest integer that divides all the numbers, however long they are; 0 if all are 0."""
    found = 0
    for number in numbers:
        found = gcd(found, number)
    return found


def common_divisor(numbers):
    """The greatest integer that divides all integers of a tuple; 0 if all of them are 0."""
    if not are_integers(numbers):
        raise InvalidOperation("no tuple of integers")
    return greatest_divisor(numbers)


def _check_factored(number):
    if not is_integer(number) or number < 1:
        raise InvalidCount(number)
    if number > MAX_FACTORED:
        raise TooMany(MAX_FACTORED)


def divisors(number):
    """The ascending tuple of all divisors of an integer."""
    _check_factored(number)
    low = [factor for factor in range(1, isqrt(number) + 1) if number % factor == 0]
    high = [number // factor for factor in reversed(low) if factor * factor != number]
    return tuple(low + high)


def moebius(number):
    """The sign number of an integer."""
    _check_factored(number)
    sign, rest = 1, number
    while rest > 1:
        factor = _least_factor(rest)
        rest = rest // factor
        if rest % factor == 0:
            return 0
        sign = -sign
    return sign


def binomial(top, low):
    """The number of the ways to choose some of so many things."""
    check_count(top, 0, MAX_CHOSEN)
    check_count(low, 0, MAX_CHOSEN)
    return comb(top, low)


def lowest_terms(top, bottom):
    """The fraction that is the quotient of two integers, however long they are."""
    shared = gcd(top, bottom)
    if bottom < 0:
        shared = -shared
    return top // shared, bottom // shared


def fraction(top, bottom):
    """The fraction that is the quotient of two integers."""
    check_integer(top)
    if not is_integer(bottom) or bottom == 0:
        raise InvalidCount(bottom)
    return lowest_terms(top, bottom)


def power_of(base, many):
    """The product of so many factors that are all the base."""
    found = 1
    for _ in range(many):
        found = found * base
    return found


def all_choices(options):
    """The list of all tuples with one member of each option, in the sequence of the options' members."""
    found = [()]
    for option in options:
        found = [chosen + (member,) for chosen in found for member in option]
    return found


def unit_row(size, place):
    """The row of so many integers with 1 at a place and 0 elsewhere."""
    return tuple([1 if at == place else 0 for at in range(size)])


def row_less(row, other):
    """The differences of the integers at equal indices."""
    return tuple([number - less for number, less in zip(row, other)])


def row_plus(row, other):
    """The sums of the integers at equal indices."""
    return tuple([number + more for number, more in zip(row, other)])


def dot_row(row, other):
    """The sum of the products of the integers at equal indices."""
    return sum([left * right for left, right in zip(row, other)])


def is_below(row, other):
    """Whether no integer of a row is greater than that of the other one at the same index."""
    return all([number <= most for number, most in zip(row, other)])


def is_zero_row(row):
    """Whether all integers are 0."""
    return not any([number != 0 for number in row])


def row_over(row, many):
    """The integers, divided by an integer that divides all of them."""
    return tuple([number // many for number in row])


def row_count(sizes):
    """How many rows are below a row."""
    found = 1
    for size in sizes:
        found = found * (size + 1)
    return found


def rows_to(sizes):
    """The ascending list of all rows below a row, however many they are."""
    return all_choices([list(range(size + 1)) for size in sizes])


def rows_below(sizes):
    """The ascending tuple of all rows below a row."""
    if not is_row(sizes):
        raise InvalidSizes("no row of sizes")
    if row_count(sizes) > MAX_BELOW:
        raise TooMany(MAX_BELOW)
    return tuple(rows_to(sizes))
