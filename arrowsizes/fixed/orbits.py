"""All fillings of some sizes, in lots of alike ones.

A filling is told here by the tuple of the rows of its tables.
"""

from arrowsizes.base.numbers import all_choices, power_of
from arrowsizes.grid.columns import all_columns

# By primes a residue of which all others but 0 are powers, and the one that undoes it.
MAKERS = {3: (2, 2), 5: (2, 3), 7: (3, 5)}


def fillings_number(plan, prime, sizes):
    """The number of all fillings of the sizes."""
    return power_of(prime, sum([sizes[start] * sizes[goal] for start, goal in plan.arrows]))


def _all_rows(prime, height, width):
    """The ascending list of the rows of all tables with these sides; tables without rows need no columns."""
    columns = all_columns(prime, width) if height > 0 else []
    return all_choices([columns] * height)


def _all_fillings(plan, prime, sizes):
    """The ascending list of all fillings of the sizes."""
    return all_choices([_all_rows(prime, sizes[goal], sizes[start]) for start, goal in plan.arrows])


def _moves(prime, sizes):
    """The list of the moves (point, index, other index) that make all turns of all points.

    A move adds the row at the other index to the row at the index, or, if both are one, multiplies this row.
    """
    found = []
    for point, size in enumerate(sizes):
        for at in range(1, size):
            found = found + [(point, at - 1, at), (point, at, at - 1)]
        if size > 0 and prime in MAKERS:
            found.append((point, 0, 0))
    return found


def _behind(prime, rows, at, other):
    """A table with the turn of a move behind it."""
    if at == other:
        moved = [MAKERS[prime][0] * residue for residue in rows[at]]
    else:
        moved = [residue + more for residue, more in zip(rows[at], rows[other])]
    return rows[:at] + (tuple([residue % prime for residue in moved]),) + rows[at + 1:]


def _ahead(prime, rows, at, other):
    """A table with the turn of a move undone ahead of it."""
    found = []
    for row in rows:
        moved = MAKERS[prime][1] * row[at] if at == other else row[other] - row[at]
        found.append(row[:other] + (moved % prime,) + row[other + 1:])
    return tuple(found)


def _moved(plan, prime, tables, move):
    """A filling, changed by the turn of a move."""
    point, at, other = move
    found = []
    for (start, goal), rows in zip(plan.arrows, tables):
        if goal == point:
            found.append(_behind(prime, rows, at, other))
        else:
            found.append(_ahead(prime, rows, at, other) if start == point else rows)
    return tuple(found)


def _marked(plan, prime, tables, moves, seen):
    """The number of the fillings alike to one that was not seen; they are seen then."""
    seen[tables] = True
    todo, many = [tables], 0
    while todo:
        one = todo.pop()
        many = many + 1
        for move in moves:
            other = _moved(plan, prime, one, move)
            if other not in seen:
                seen[other] = True
                todo.append(other)
    return many


def kinds_with_numbers(plan, prime, sizes):
    """The ascending list of the pairs of the least filling of each kind, and of how many fillings it has."""
    moves, seen, found = _moves(prime, sizes), {}, []
    for tables in _all_fillings(plan, prime, sizes):
        if tables not in seen:
            found.append((tables, _marked(plan, prime, tables, moves, seen)))
    return found
