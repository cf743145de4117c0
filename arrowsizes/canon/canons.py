"""The parts of the general filling of some sizes."""

from arrowsizes.base.numbers import is_integer, is_zero_row, row_less
from arrowsizes.chart.plans import check_sizes, is_sizes
from arrowsizes.general.generals import check_general
from arrowsizes.general.sitting import sitting_rows


def _check(plan, sizes):
    check_sizes(plan, sizes)
    check_general(plan, [sizes])


def _splittings(sizes, inner):
    """The list of the rows, neither 0 nor all, that sit in the sizes, and so does what is left of them.

    `inner` is the ascending list of the rows that sit in the sizes.
    """
    return [row for row in inner[1:-1] if row_less(sizes, row) in inner]


def _parts(plan, sizes):
    """The canonical parts: what splits is split, again and again. What does not split is a Schur root."""
    sitting, found, todo = sitting_rows(plan, sizes), {}, [sizes]
    while todo:
        row = todo.pop()
        ways = _splittings(row, sitting[row])
        if ways:
            todo = todo + [ways[0], row_less(row, ways[0])]
        elif not is_zero_row(row):
            found[row] = found.get(row, 0) + 1
    return {row: found[row] for row in sorted(list(found))}


def canonical_parts(plan, sizes):
    """The canonical parts, a dict."""
    _check(plan, sizes)
    return _parts(plan, sizes)


def are_canonical(plan, sizes, value):
    """Whether the value is this dict."""
    _check(plan, sizes)
    if not isinstance(value, dict):
        return False
    ways = [is_sizes(plan, row) and is_integer(many) for row, many in value.items()]
    return all(ways) and value == _parts(plan, sizes)


def splitting_of(plan, sizes):
    """Any row that splits the general filling, or None if there is none."""
    _check(plan, sizes)
    ways = _splittings(sizes, sitting_rows(plan, sizes)[sizes])
    return ways[0] if ways else None


def is_splitting(plan, sizes, value):
    """Whether the value is such a row."""
    _check(plan, sizes)
    return is_sizes(plan, value) and value in _splittings(sizes, sitting_rows(plan, sizes)[sizes])


def _free_number(plan, sizes):
    return sum([many * (1 - plan.norm(row)) for row, many in _parts(plan, sizes).items()])


def free_number(plan, sizes):
    """On how many numbers the general filling hangs."""
    _check(plan, sizes)
    return _free_number(plan, sizes)


def endomorphism_number(plan, sizes):
    """The number of independent endomorphisms of the general filling."""
    _check(plan, sizes)
    return plan.norm(sizes) + _free_number(plan, sizes)
