"""Partitions of integers, told by tuples that do not ascend."""

from arrowsizes.base.numbers import all_choices, are_counts, are_integers, check_count, dot_row, is_row
from arrowsizes.errors import InvalidOperation, InvalidParts, InvalidSizes, TooMany
from arrowsizes.poly.polys import Quotient, poly_of_row, turn_row
from arrowsizes.poly.rows import product_row, shifted_row

MAX_PARTS = 24
MAX_LISTED = 18
MAX_ROWS = 3000


def _do_descend(numbers):
    """Whether no number is greater than the one ahead of it."""
    return all([numbers[at] >= numbers[at + 1] for at in range(len(numbers) - 1)])


def is_parts(value):
    """Whether the value is parts."""
    return are_counts(value, 1, MAX_PARTS) and sum(value) <= MAX_PARTS and _do_descend(value)


def _check_parts(value):
    if not is_parts(value):
        raise InvalidParts("no parts")


def _check_both(one, other):
    _check_parts(one)
    _check_parts(other)


def total_of(parts):
    """The sum of the parts."""
    _check_parts(parts)
    return sum(parts)


def _conjugate(parts):
    return tuple([len([part for part in parts if part > at]) for at in range(max(parts, default=0))])


def conjugate(parts):
    """The parts that tell for each index how many of these are above it."""
    _check_parts(parts)
    return _conjugate(parts)


def _falling(numbers):
    return tuple(sorted(list(numbers), reverse=True))


def joined_parts(one, other):
    """The parts with all members of both."""
    _check_both(one, other)
    if sum(one) + sum(other) > MAX_PARTS:
        raise TooMany(MAX_PARTS)
    return _falling(one + other)


def _parts_to(number, most):
    """The ascending list of all parts of a total whose members are at most so great."""
    if number == 0:
        return [()]
    found = []
    for first in range(1, min(number, most) + 1):
        found = found + [(first,) + rest for rest in _parts_to(number - first, first)]
    return found


def partitions(number):
    """The ascending tuple of all parts with a total."""
    check_count(number, 0, MAX_LISTED)
    return tuple(_parts_to(number, number))


def rows_of_parts(sizes):
    """The ascending tuple of all tuples of parts with these totals."""
    if not is_row(sizes):
        raise InvalidSizes("no row of sizes")
    options = [_parts_to(size, size) for size in sizes]
    many = 1
    for option in options:
        many = many * len(option)
    if many > MAX_ROWS:
        raise TooMany(MAX_ROWS)
    return tuple(all_choices(options))


def _product_number(one, other):
    return dot_row(_conjugate(one), _conjugate(other))


def product_number(one, other):
    """The product number of both parts."""
    _check_both(one, other)
    return _product_number(one, other)


def _turns_row(parts):
    """The coefficients of the turns: those of each power of 1 / q belong to a turn count."""
    found, power = (1,), _product_number(parts, parts)
    for part in range(1, max(parts, default=0) + 1):
        times = parts.count(part)
        found = product_row(found, turn_row(times))
        power = power - times * times
    return shifted_row(found, power)


def turns_of(parts):
    """The number of the turns that keep the block table, a polynomial."""
    _check_parts(parts)
    return poly_of_row(_turns_row(parts))


def tables_with(parts):
    """The number of the tables that have the parts, a polynomial."""
    _check_parts(parts)
    return Quotient(poly_of_row(turn_row(sum(parts))), poly_of_row(_turns_row(parts))).top


def _ranks(parts):
    entries = _conjugate(parts)
    return tuple([sum(entries[power:]) for power in range(1, len(entries))])


def ranks_of(parts):
    """The ranks of the powers of the block table, as far as they are above 0."""
    _check_parts(parts)
    return _ranks(parts)


def parts_of_ranks(number, ranks):
    """The parts of a total that have these ranks."""
    check_count(number, 0, MAX_PARTS)
    if not are_integers(ranks):
        raise InvalidOperation("no tuple of integers")
    falls = (number,) + ranks + (0,) if number > 0 else ranks
    entries = tuple([falls[at] - falls[at + 1] for at in range(len(falls) - 1)])
    if not is_parts(entries) or _ranks(_conjugate(entries)) != ranks:
        raise InvalidOperation("no ranks of parts with this total")
    return _conjugate(entries)


def is_above(one, other):
    """Whether no rank of the second parts is greater than that of the first ones."""
    _check_both(one, other)
    if sum(one) != sum(other):
        raise InvalidOperation("the totals are unlike")
    left, right = _ranks(one), _ranks(other)
    if len(right) > len(left):
        return False
    return all([right[at] <= left[at] for at in range(len(right))])


def _with_one_moved(parts, start, goal):
    """The parts with one taken from the index start to the index goal, which can be the one behind the last."""
    moved = list(parts) + [0]
    moved[start] -= 1
    moved[goal] += 1
    return tuple([part for part in moved if part > 0])


def _is_step(parts, start, goal):
    """Whether nothing lies between the parts and those with one moved.

    So it is if the move goes to the next index, or between members that the move makes equal.
    """
    longer = list(parts) + [0]
    gap = longer[start] - longer[goal]
    if goal == start + 1:
        return gap >= 2
    return gap == 2 and all([longer[at] == longer[start] - 1 for at in range(start + 1, goal)])


def covers(parts):
    """The ascending tuple of all parts that are next below these."""
    _check_parts(parts)
    many = len(parts)
    steps = [(start, goal) for start in range(many) for goal in range(start + 1, many + 1)]
    found = [_with_one_moved(parts, start, goal) for start, goal in steps if _is_step(parts, start, goal)]
    return tuple(sorted(found))
