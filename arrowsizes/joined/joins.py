"""Joins of fillings: subs with told quotients, and extensions."""

from arrowsizes.base.numbers import are_counts, is_below, power_of, row_plus
from arrowsizes.chart.plans import MOST_SIZE, Plan, check_sizes
from arrowsizes.errors import InvalidOperation, TooMany
from arrowsizes.fill.fillings import are_tables, check_filling, check_together, filling_off, filling_on
from arrowsizes.fill.fillings import tables_of_rows
from arrowsizes.fill.homs import hom_and_ext
from arrowsizes.fill.subs import subs_among
from arrowsizes.grid.columns import all_bases
from arrowsizes.joined.classes import Classes, joined_filling
from arrowsizes.joined.likes import Model, alike_extensions, likenesses_of
from arrowsizes.poly.polys import gauss_row, poly_of_row
from arrowsizes.poly.rows import product_of, shifted_row, value_of

MAX_JOINED = 20000
_MOST_TOTAL = 12


def _check_small(fillings):
    if any([filling.total > _MOST_TOTAL for filling in fillings]):
        raise TooMany(_MOST_TOTAL)


def _check_sum_small(rest, sub):
    if rest.total + sub.total > _MOST_TOTAL:
        raise TooMany(_MOST_TOTAL)


def _check_low(rest, sub):
    if any([size > MOST_SIZE for size in row_plus(sub.sizes, rest.sizes)]):
        raise TooMany(MOST_SIZE)


def _check_spaces(filling, sizes):
    """Raise TooMany if there are too many rows of subspaces with some sizes."""
    many = 1
    for height, number in zip(filling.sizes, sizes):
        many = many * value_of(gauss_row(height, number), filling.prime)
    if many > MAX_JOINED:
        raise TooMany(MAX_JOINED)


def _check_classes(rest, sub):
    if power_of(rest.prime, hom_and_ext(rest, sub)[1]) > MAX_JOINED:
        raise TooMany(MAX_JOINED)


def _subs(filling, sizes):
    """The list of all subs with some sizes."""
    if not is_below(sizes, filling.sizes):
        return []
    options = [all_bases(filling.prime, height, number) for height, number in zip(filling.sizes, sizes)]
    return subs_among(filling, options)


def subs_with(filling, sizes):
    """A generator of all subs with some sizes."""
    check_filling(filling)
    check_sizes(filling.plan, sizes)
    _check_spaces(filling, sizes)
    for spaces in _subs(filling, sizes):
        yield spaces


def join_number(whole, sub, rest):
    """The number of the subs of the whole that are alike to the sub, and whose quotient is alike to the rest."""
    check_together([whole, sub, rest])
    _check_small([whole, sub, rest])
    if row_plus(sub.sizes, rest.sizes) != whole.sizes:
        return 0
    _check_spaces(whole, sub.sizes)
    inner, outer, found = Model(sub), Model(rest), 0
    for spaces in _subs(whole, sub.sizes):
        if inner.is_met_by(filling_on(whole, spaces)) and outer.is_met_by(filling_off(whole, spaces)):
            found = found + 1
    return found


def extended(rest, sub, between):
    """The extension that a row of tables tells."""
    check_together([rest, sub])
    if not are_tables(rest.plan, rest.prime, rest.sizes, sub.sizes, between):
        raise InvalidOperation("no row of such tables for the arrows")
    _check_low(rest, sub)
    _check_sum_small(rest, sub)
    return joined_filling(rest, sub, [table.rows for table in between])


def class_base(rest, sub):
    """Any rows of tables of which each class has just one sum of multiples."""
    check_together([rest, sub])
    _check_small([rest, sub])
    base = Classes(rest, sub).base()
    return tuple([tables_of_rows(rest.plan, rest.prime, rest.sizes, sub.sizes, maps) for maps in base])


def middle_number(rest, sub, whole):
    """The number of the classes of extensions that are alike to the whole."""
    check_together([rest, sub, whole])
    _check_small([whole])
    _check_sum_small(rest, sub)
    _check_classes(rest, sub)
    if row_plus(sub.sizes, rest.sizes) != whole.sizes:
        return 0
    model = Model(whole)
    return sum([many for filling, many in alike_extensions(rest, sub) if model.is_met_by(filling)])


def middles(rest, sub):
    """All extensions up to likeness, with their numbers of classes: a tuple of pairs."""
    check_together([rest, sub])
    _check_low(rest, sub)
    _check_sum_small(rest, sub)
    _check_classes(rest, sub)
    return tuple(alike_extensions(rest, sub))


def likeness_number(filling):
    """The number of the likenesses of a filling to itself."""
    check_filling(filling)
    _check_small([filling])
    return likenesses_of(filling)


def line_sort(filling):
    """The triple of both sizes and of the rank of the table of a filling of two points and one arrow."""
    check_filling(filling)
    if filling.plan != Plan.line(2):
        raise InvalidOperation("the plan is not that of two points and one arrow")
    return filling.sizes + (filling.tables[0].rank,)


def _is_line_sort(value):
    return are_counts(value, 0, MOST_SIZE) and len(value) == 3 and value[2] <= min(value[:2])


def _meeting(height, width, number, meet):
    """The number of the spaces with a free number that meet one of a width in a space with another free number.

    All are spaces of a height; numbers that tell nothing give 0.
    """
    if not 0 <= meet <= number:
        return ()
    ways = [gauss_row(width, meet), gauss_row(height - width, number - meet)]
    return shifted_row(product_of(ways), (number - meet) * (width - meet))


def line_join(whole, sub, rest):
    """The join number of three line sorts, a polynomial.

    The space at the first point meets the kernel in what the sub loses, and the one at the second
    point, modulo what the table makes of the first one, meets what is left of its image.
    """
    for value in (whole, sub, rest):
        if not _is_line_sort(value):
            raise InvalidOperation("no line sort")
    if row_plus(sub[:2], rest[:2]) != whole[:2]:
        return poly_of_row(())
    first, second, rank = whole
    starts = _meeting(first, first - rank, sub[0], sub[0] - sub[2])
    left = rank - sub[2]
    goals = _meeting(second - sub[2], left, sub[1] - sub[2], left - rest[2])
    return poly_of_row(product_of([starts, goals]))
