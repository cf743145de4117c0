"""Which rows of sizes sit in which ones, for a plan without rings, told by sizes alone.

All these functions check nothing.
"""

from arrowsizes.base.numbers import dot_row, is_zero_row, row_less, rows_to


def left_row(plan, row):
    """The row whose product with any other row is the form of the first row and the other one."""
    found = list(row)
    for start, goal in plan.arrows:
        found[goal] -= row[start]
    return tuple(found)


def _has_bar(lefts, rest):
    """Whether the form of one of some rows, told by their left rows, and the rest is below 0."""
    for left in lefts:
        if dot_row(left, rest) < 0:
            return True
    return False


def sitting_rows(plan, sizes):
    """The dict from all rows below the sizes to the ascending lists of the rows that sit in them.

    A row sits there exactly if no row that sits in it has a form below 0 with what is left.
    Rows that sit in a row come ahead of it, so one round through all rows tells all.
    """
    found, lefts = {}, {}
    for row in rows_to(sizes):
        inner = [part for part in rows_to(row)[:-1] if not _has_bar(lefts[part], row_less(row, part))]
        found[row] = inner + [row]
        lefts[row] = [left_row(plan, part) for part in found[row]]
    return found


def is_schur_row(plan, row, inner):
    """Whether a row is a Schur root; `inner` is the list of the rows that sit in it."""
    return not is_zero_row(row) and all([plan.form(part, row) > plan.form(row, part) for part in inner[1:-1]])
