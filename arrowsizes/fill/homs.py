"""Homs between fillings that go together, as the rows of their tables at all points.

All these functions take fillings and check nothing.
"""

from arrowsizes.grid.columns import kernel_columns, rank_of


def _starts_of(one, other):
    """The places of the first entries of all tables of a hom in one row of all entries, and how many these are."""
    starts, many = [], 0
    for wide, high in zip(one.sizes, other.sizes):
        starts.append(many)
        many = many + wide * high
    return starts, many


def _equation(one, other, starts, many, at, place):
    """What the entries of a hom must meet at a place (row, column) of the arrow at an index."""
    start, goal = one.plan.arrows[at]
    row, column = place
    entries = [0] * many
    for inner, line in enumerate(one.tables[at].rows):
        entries[starts[goal] + row * one.sizes[goal] + inner] = line[column]
    for inner, residue in enumerate(other.tables[at].rows[row]):
        entries[starts[start] + inner * one.sizes[start] + column] = -residue % one.prime
    return tuple(entries)


def equations(one, other):
    """The rows of all equations for the entries of a hom, and how many entries it has.

    The sums of multiples of their columns are the rows of tables along the arrows of the form
    f_j * x - y * f_i, entry by entry.
    """
    starts, many = _starts_of(one, other)
    rows = []
    for at, (start, goal) in enumerate(one.plan.arrows):
        places = [(row, column) for row in range(other.sizes[goal]) for column in range(one.sizes[start])]
        rows = rows + [_equation(one, other, starts, many, at, place) for place in places]
    return rows, many


def hom_and_ext(one, other):
    """The pair of the hom number and the ext number."""
    rows, many = equations(one, other)
    rank = rank_of(one.prime, rows)
    return many - rank, len(rows) - rank


def maps_of(entries, sides):
    """The tuple of the rows of tables with these sides (height, width), by the row of all their entries."""
    found, begin = [], 0
    for high, wide in sides:
        found.append(tuple([entries[begin + row * wide:begin + row * wide + wide] for row in range(high)]))
        begin = begin + wide * high
    return tuple(found)


def hom_maps(one, other):
    """The list of the homs of a base, each one as the tuple of the rows of its tables."""
    rows, many = equations(one, other)
    sides = list(zip(other.sizes, one.sizes))
    return [maps_of(entries, sides) for entries in kernel_columns(one.prime, rows, many)]


def flat_row(maps):
    """The row of all entries of some tables."""
    return tuple([residue for rows in maps for row in rows for residue in row])
