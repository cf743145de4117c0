"""Roots of plans, their multiplicities, and signed sizes. The directions of arrows have no effect here."""

from arrowsizes.base.lots import SHARES, share_of
from arrowsizes.base.numbers import are_counts, dot_row, is_count, is_zero_row, lowest_terms
from arrowsizes.base.numbers import row_count, row_less, rows_to, unit_row
from arrowsizes.chart.plans import are_joined, check_sizes, is_sizes
from arrowsizes.errors import InvalidOperation, TooMany

MAX_ROWS = 400
_REAL = "real"
_IMAGINARY = "imaginary"
_APART = "apart"
_BELOW = "below"


def _check(plan, sizes):
    check_sizes(plan, sizes)
    if is_zero_row(sizes):
        raise InvalidOperation("the sizes are all 0")


def _check_few(plan, sizes):
    _check(plan, sizes)
    if row_count(sizes) > MAX_ROWS:
        raise TooMany(MAX_ROWS)


def _with_less(row, point, number):
    return row[:point] + (row[point] - number,) + row[point + 1:]


def _falls(table, sizes, point):
    """Whether the sizes fall at a point, by the match table."""
    return dot_row(table[point], sizes) > 0


def _fallen(table, sizes, point):
    """The sizes, reflected at a point."""
    return _with_less(sizes, point, dot_row(table[point], sizes))


def _first_fall(table, sizes):
    """The first point at which the sizes fall, or None."""
    for point in range(len(sizes)):
        if _falls(table, sizes, point):
            return point
    return None


def _low_kind(plan, sizes):
    return _IMAGINARY if are_joined(plan, sizes) else _APART


def _paper(plan, sizes):
    """A paper, by falls at the first point each time. Sizes with the sum 1 are a point."""
    table, word, now = plan.match_table, (), sizes
    while sum(now) > 1:
        point = _first_fall(table, now)
        if point is None:
            return _low_kind(plan, now), word, now
        lower = _fallen(table, now, point)
        if lower[point] < 0:
            return _BELOW, word, point
        word, now = word + (point,), lower
    return _REAL, word, now.index(1)


def root_paper(plan, sizes):
    """Any paper about the sizes."""
    _check(plan, sizes)
    return _paper(plan, sizes)


def _behind(table, sizes, word):
    """The sizes behind a word, or None if they do not fall there so."""
    now = sizes
    for point in word:
        if sum(now) == 1 or not _falls(table, now, point):
            return None
        now = _fallen(table, now, point)
        if now[point] < 0:
            return None
    return now


def _is_end(plan, sizes, kind, end):
    """Whether sizes end in the told way."""
    table = plan.match_table
    if kind == _REAL:
        return is_count(end, 0, plan.size - 1) and sizes == unit_row(plan.size, end)
    if kind == _BELOW:
        if not is_count(end, 0, plan.size - 1) or sum(sizes) == 1:
            return False
        return _fallen(table, sizes, end)[end] < 0
    if not is_sizes(plan, end) or sizes != end or _first_fall(table, sizes) is not None:
        return False
    return kind == _low_kind(plan, sizes)


def is_root_paper(plan, sizes, value):
    """Whether the value is a paper about the sizes."""
    _check(plan, sizes)
    if not isinstance(value, tuple) or len(value) != 3:
        return False
    kind, word, end = value
    if not are_counts(word, 0, plan.size - 1):
        return False
    now = _behind(plan.match_table, sizes, word)
    return now is not None and _is_end(plan, now, kind, end)


def _is_root(plan, sizes):
    return _paper(plan, sizes)[0] in (_REAL, _IMAGINARY)


def is_root(plan, sizes):
    """Whether the sizes are a root."""
    _check(plan, sizes)
    return _is_root(plan, sizes)


def roots_to(plan, sizes):
    """The ascending tuple of all roots that are at most the sizes."""
    _check_few(plan, sizes)
    return tuple([row for row in rows_to(sizes)[1:] if _is_root(plan, row)])


def _match_sum(row, shares, table):
    """The sum of the matches of all pairs of rows with this sum, times the shares of both."""
    total = 0
    for part, share in shares.items():
        rest = row_less(row, part)
        if rest in shares:
            number = dot_row(part, [dot_row(line, rest) for line in table])
            total = total + number * share * shares[rest]
    return total


def _origins(plan, sizes):
    """The pair of dicts from rows up to the sizes: to sixty times their sum numbers other than 0, to multiplicities."""
    table, shares, many = plan.match_table, {}, {}
    for row in rows_to(sizes)[1:]:
        factor = 2 * plan.norm(row) - 2 * sum(row)
        rest = share_of(row, many)
        if sum(row) == 1:
            share = SHARES
        elif factor == 0:
            share = rest
        else:
            share = _match_sum(row, shares, table) // (SHARES * factor)
        many[row] = (share - rest) // SHARES
        if share:
            shares[row] = share
    return shares, many


def sum_number(plan, sizes):
    """The sum number of the sizes, a fraction."""
    _check_few(plan, sizes)
    shares, _ = _origins(plan, sizes)
    return lowest_terms(shares.get(sizes, 0), SHARES)


def multiplicity(plan, sizes):
    """The multiplicity of the sizes."""
    _check_few(plan, sizes)
    _, many = _origins(plan, sizes)
    return many[sizes]


def multiplicities(plan, sizes):
    """The dict from all roots that are at most the sizes to their multiplicities, ascending."""
    _check_few(plan, sizes)
    _, many = _origins(plan, sizes)
    return {row: number for row, number in many.items() if number > 0}


def signed_sizes(plan, sizes):
    """The dict from all signed sizes that are at most the sizes to their signs, ascending.

    All signed sizes come so from lesser ones, so the others need not be gone through.
    """
    _check_few(plan, sizes)
    table = plan.match_table
    zeros = (0,) * plan.size
    signs, todo = {zeros: 1}, [zeros]
    while todo:
        row = todo.pop()
        for point in range(plan.size):
            other = _with_less(_fallen(table, row, point), point, -1)
            if 0 <= other[point] <= sizes[point] and other not in signs:
                signs[other] = -signs[row]
                todo.append(other)
    return {row: signs[row] for row in sorted(list(signs))}
