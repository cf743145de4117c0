"""What sits in the general filling of some sizes, and the least hom and ext numbers of sizes."""

from arrowsizes.base.numbers import is_below, row_count, row_less
from arrowsizes.chart.plans import check_sizes, is_sizes
from arrowsizes.errors import InvalidOperation, Refused, TooMany
from arrowsizes.general.sitting import is_schur_row, sitting_rows

MAX_GENERAL = 14
MAX_SUBS = 300
_RING = "ring"


def check_general(plan, rows):
    """Raise an error unless the plan has no ring, and its rows of sizes are within the bounds of general fillings."""
    if plan.has_ring:
        raise Refused((_RING,))
    if any([sum(row) > MAX_GENERAL for row in rows]):
        raise TooMany(MAX_GENERAL)
    if any([row_count(row) > MAX_SUBS for row in rows]):
        raise TooMany(MAX_SUBS)


def _check_one(plan, sizes):
    check_sizes(plan, sizes)
    check_general(plan, [sizes])


def _check_both(plan, one, other):
    check_sizes(plan, one)
    check_sizes(plan, other)
    check_general(plan, [one, other])


def _check_within(plan, one, whole):
    _check_both(plan, one, whole)
    if not is_below(one, whole):
        raise InvalidOperation("the one row is not below the other one")


def _subs(plan, sizes):
    """The list of the rows that sit in the sizes."""
    return sitting_rows(plan, sizes)[sizes]


def _ext(plan, subs, other):
    """The ext number of sizes, told by the rows that sit in them, and other ones."""
    return max([-plan.form(row, other) for row in subs])


def subs_of(plan, sizes):
    """The ascending tuple of all rows that sit in the sizes."""
    _check_one(plan, sizes)
    return tuple(_subs(plan, sizes))


def _bars(plan, one, whole):
    """The list of the bars for a row below another one."""
    rest = row_less(whole, one)
    return [row for row in _subs(plan, one) if plan.form(row, rest) < 0]


def sits_in(plan, one, whole):
    """Whether the one row sits in the other one."""
    _check_both(plan, one, whole)
    return is_below(one, whole) and not _bars(plan, one, whole)


def bar_of(plan, one, whole):
    """Any bar, or None if the one row sits in the other one."""
    _check_within(plan, one, whole)
    bars = _bars(plan, one, whole)
    return bars[0] if bars else None


def is_bar(plan, one, whole, value):
    """Whether the value is a bar."""
    _check_within(plan, one, whole)
    return is_sizes(plan, value) and value in _bars(plan, one, whole)


def ext_of_sizes(plan, one, other):
    """The least ext number of fillings of both sizes."""
    _check_both(plan, one, other)
    return _ext(plan, _subs(plan, one), other)


def hom_of_sizes(plan, one, other):
    """The least hom number of fillings of both sizes."""
    _check_both(plan, one, other)
    return plan.form(one, other) + _ext(plan, _subs(plan, one), other)


def _best_subs(plan, one, other):
    """The list of the rows that sit in the one row and tell the ext number of both."""
    subs = _subs(plan, one)
    ext = _ext(plan, subs, other)
    return [row for row in subs if -plan.form(row, other) == ext]


def best_sub(plan, one, other):
    """Any row that sits in the one row and tells the ext number of both."""
    _check_both(plan, one, other)
    return _best_subs(plan, one, other)[0]


def is_best_sub(plan, one, other, value):
    """Whether the value is such a row."""
    _check_both(plan, one, other)
    return is_sizes(plan, value) and value in _best_subs(plan, one, other)


def is_schur(plan, sizes):
    """Whether the sizes are a Schur root."""
    _check_one(plan, sizes)
    return is_schur_row(plan, sizes, _subs(plan, sizes))


def schur_roots(plan, sizes):
    """The ascending tuple of all Schur roots below the sizes."""
    _check_one(plan, sizes)
    return tuple([row for row, inner in sitting_rows(plan, sizes).items() if is_schur_row(plan, row, inner)])
