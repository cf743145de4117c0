"""Determinants of square tables of integers."""

from arrowsizes.base.numbers import all_choices


def determinant(rows):
    """The determinant, by the entries of the first row."""
    if not rows:
        return 1
    total, sign = 0, 1
    for at, entry in enumerate(rows[0]):
        if entry:
            total = total + sign * entry * determinant([row[:at] + row[at + 1:] for row in rows[1:]])
        sign = -sign
    return total


def _minor(rows, places):
    """The determinant of the rows and columns at some places."""
    return determinant([tuple([rows[at][other] for other in places]) for at in places])


def is_positive(rows):
    """Whether a table that reads the same from both sides has a form above 0 at each row other than 0."""
    return all([_minor(rows, list(range(many))) > 0 for many in range(1, len(rows) + 1)])


def is_nowhere_negative(rows):
    """Whether such a table has a form that is nowhere below 0: all determinants along the diagonal tell it."""
    for chosen in all_choices([(False, True)] * len(rows)):
        if _minor(rows, [at for at in range(len(rows)) if chosen[at]]) < 0:
            return False
    return True
