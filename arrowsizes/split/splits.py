"""Fillings, split into parts that cannot be split."""

from arrowsizes.errors import InvalidOperation, TooMany
from arrowsizes.fill.fillings import Filling, check_filling, check_fillings, is_hom, sub_filling
from arrowsizes.fill.homs import hom_maps
from arrowsizes.grid.columns import base_columns, dot, idle_columns, kernel_columns, swapped_rows
from arrowsizes.grid.tables import idle_table, table_with, zero_table
from arrowsizes.split.local import split_or_degree
from arrowsizes.split.maps import are_turns, steady_power

MAX_SPLIT = 12


def _check_small(filling):
    if filling.total > MAX_SPLIT:
        raise TooMany(MAX_SPLIT)


def _check_one(filling):
    check_filling(filling)
    _check_small(filling)


def _check_both(one, other):
    check_fillings(one, other)
    _check_small(one)
    _check_small(other)


def _split_or_degree(filling):
    """The pair of a split endomorphism and 0, or of None and the field degree, which is 0 for sizes that are all 0."""
    if filling.total == 0:
        return None, 0
    return split_or_degree(filling.prime, hom_maps(filling, filling))


def _degree(filling):
    """The field degree, or 0 if the filling is not unsplittable."""
    return _split_or_degree(filling)[1]


def is_unsplittable(filling):
    """Whether the filling is unsplittable."""
    _check_one(filling)
    return _degree(filling) > 0


def field_degree(filling):
    """The field degree of an unsplittable filling."""
    _check_one(filling)
    degree = _degree(filling)
    if degree == 0:
        raise InvalidOperation("the filling is not unsplittable")
    return degree


def is_firm(filling):
    """Whether the filling is firm."""
    _check_one(filling)
    return _degree(filling) == 1


def _halves(prime, maps):
    """The pair of the plain spaces of the image and the kernel of a high power of an endomorphism."""
    risen = steady_power(prime, maps)
    image = [base_columns(prime, swapped_rows(rows, len(rows))) for rows in risen]
    return tuple(image), tuple([kernel_columns(prime, rows, len(rows)) for rows in risen])


def _projection(prime, size, image, kernel):
    """The square table that keeps the columns of the image, and leads those of the kernel to 0."""
    places = table_with(prime, size, image + kernel)
    kept = table_with(prime, size, image + ((0,) * size,) * len(kernel))
    return kept.times(places.undone())


def idempotent_of(filling):
    """Any proper idempotent, or None if there is none."""
    _check_one(filling)
    split, _ = _split_or_degree(filling)
    if split is None:
        return None
    image, kernel = _halves(filling.prime, split)
    found = []
    for size, kept, lost in zip(filling.sizes, image, kernel):
        found.append(_projection(filling.prime, size, kept, lost))
    return tuple(found)


def _is_any_idempotent(filling, value):
    """Whether the value is an endomorphism that is its own square."""
    return is_hom(filling, filling, value) and tuple([table.times(table) for table in value]) == value


def _idle(filling):
    return tuple([idle_table(filling.prime, size) for size in filling.sizes])


def is_idempotent(filling, value):
    """Whether the value is a proper idempotent."""
    _check_one(filling)
    if not _is_any_idempotent(filling, value):
        return False
    zeros = tuple([zero_table(filling.prime, size, size) for size in filling.sizes])
    return value != _idle(filling) and value != zeros


def halves_of(filling, idempotent):
    """The pair of the plain spaces of the images of an idempotent, and of the idle endomorphism less it."""
    check_filling(filling)
    if not _is_any_idempotent(filling, idempotent):
        raise InvalidOperation("no endomorphism that is its own square")
    _check_small(filling)
    return _halves(filling.prime, tuple([table.rows for table in idempotent]))


def _sum_of_columns(prime, factors, columns, height):
    """The sum of the multiples of some columns of a height."""
    return tuple([dot(prime, factors, row) for row in swapped_rows(columns, height)])


def _led_back(filling, spaces, inner):
    """Columns in the coordinates of a sub with these spaces, in those of the filling."""
    found = []
    for size, columns, told in zip(filling.sizes, spaces, inner):
        found.append(tuple([_sum_of_columns(filling.prime, column, columns, size) for column in told]))
    return tuple(found)


def split_pieces(filling):
    """The list of the triples (part, field degree, spaces of the part in the filling), unchecked."""
    found, todo = [], [(filling, tuple([idle_columns(size) for size in filling.sizes]))]
    while todo:
        part, spaces = todo.pop()
        split, degree = _split_or_degree(part)
        if split is not None:
            for half in _halves(part.prime, split):
                todo.append((sub_filling(part, half), _led_back(filling, spaces, half)))
        elif degree > 0:
            found.append((part, degree, spaces))
    return found


def parts_of(filling):
    """Any tuple of parts."""
    _check_one(filling)
    return tuple([part for part, _, _ in split_pieces(filling)])


def part_sizes(filling):
    """The tuple of the pairs (sizes, field degree) of all parts, in ascending sequence, with repeats."""
    _check_one(filling)
    return tuple(sorted([(part.sizes, degree) for part, degree, _ in split_pieces(filling)]))


def part_likeness(one, other):
    """Any likeness of two unsplittable fillings, as rows, or None, unchecked.

    If there is one, one of each base of homs is one: all others make a lesser space.
    """
    if one.sizes == other.sizes:
        for maps in hom_maps(one, other):
            if are_turns(one.prime, maps):
                return maps
    return None


def _paired(ones, others):
    """The list of the pairs of indices at which parts are paired with like ones, as far as there are some."""
    found, left = [], list(range(len(others)))
    for at, one in enumerate(ones):
        alike = [place for place in left if part_likeness(one, others[place]) is not None]
        if alike:
            found.append((at, alike[0]))
            left.remove(alike[0])
    return found


def _are_paired(ones, others):
    """Whether parts can all be paired with like ones."""
    return len(ones) == len(others) == len(_paired(ones, others))


def _goes_with(filling, value):
    """Whether the value is a filling that goes together with another one."""
    return isinstance(value, Filling) and value.plan == filling.plan and value.prime == filling.prime


def is_parts(filling, value):
    """Whether the value is a tuple of parts: what is alike to an unsplittable filling is unsplittable."""
    _check_one(filling)
    if not isinstance(value, tuple) or not all([_goes_with(filling, part) for part in value]):
        return False
    return _are_paired(value, parts_of(filling))


def times_in(one, other):
    """How often an unsplittable filling is a part of another one."""
    _check_both(one, other)
    if _degree(one) == 0:
        raise InvalidOperation("the filling is not unsplittable")
    return len([part for part in parts_of(other) if part_likeness(one, part) is not None])


def are_alike(one, other):
    """Whether the fillings are alike."""
    _check_both(one, other)
    return one.sizes == other.sizes and _are_paired(parts_of(one), parts_of(other))


def _joint_likeness(one, ways):
    """The likeness of a filling that leads parts to parts.

    Each way is a triple (spaces of a part, rows of a likeness, spaces of its mate).
    """
    tables = []
    for point, size in enumerate(one.sizes):
        columns, reached = (), ()
        for spaces, maps, mates in ways:
            columns = columns + spaces[point]
            for factors in swapped_rows(maps[point], len(spaces[point])):
                reached = reached + (_sum_of_columns(one.prime, factors, mates[point], size),)
        places = table_with(one.prime, size, columns)
        tables.append(table_with(one.prime, size, reached).times(places.undone()))
    return tuple(tables)


def any_likeness(one, other):
    """Any likeness, or None if there is none."""
    _check_both(one, other)
    if one.sizes != other.sizes:
        return None
    pieces, mates = split_pieces(one), split_pieces(other)
    pairs = _paired([part for part, _, _ in pieces], [part for part, _, _ in mates])
    if len(pairs) < len(pieces):
        return None
    ways = []
    for at, place in pairs:
        ways.append((pieces[at][2], part_likeness(pieces[at][0], mates[place][0]), mates[place][2]))
    return _joint_likeness(one, ways)


def is_likeness(one, other, value):
    """Whether the value is a likeness from the one filling to the other one."""
    _check_both(one, other)
    return is_hom(one, other, value) and all([table.is_turn for table in value])
