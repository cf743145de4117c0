"""Bars: the unsplittable fillings of points in a row, with an arrow from each point to the next one."""

from arrowsizes.base.checks import check_prime
from arrowsizes.base.numbers import check_count, is_count, is_integer, is_row
from arrowsizes.chart.plans import MOST_POINTS, MOST_SIZE, Plan, check_point
from arrowsizes.errors import InvalidOperation, InvalidParts, InvalidPoint, InvalidSizes, TooMany
from arrowsizes.fill.fillings import Filling, check_filling
from arrowsizes.grid.tables import table_with
from arrowsizes.poly.polys import poly_of_row, turn_row
from arrowsizes.poly.rows import exact_row, product_of, shifted_row

MAX_BAR_ROWS = 3000


def _all_bars(size):
    """The ascending list of all bars."""
    return [(first, last) for first in range(size) for last in range(first, size)]


def _is_bar(size, value):
    """Whether the value is a bar."""
    if not isinstance(value, tuple) or len(value) != 2:
        return False
    return all([is_count(point, 0, size - 1) for point in value]) and value[0] <= value[1]


def _is_entry(size, value):
    """Whether the value is a pair of a bar and an integer of at least 1."""
    if not isinstance(value, tuple) or len(value) != 2:
        return False
    return _is_bar(size, value[0]) and is_integer(value[1]) and value[1] >= 1


def _rank(bars, first, last):
    """How many bars of a bar row hold all points from the first to the last one."""
    return sum([many for bar, many in bars if bar[0] <= first and last <= bar[1]])


def _sizes(size, bars):
    return tuple([_rank(bars, point, point) for point in range(size)])


def _is_bar_row(size, value):
    if not isinstance(value, tuple) or not all([_is_entry(size, entry) for entry in value]):
        return False
    if not all([value[at][0] < value[at + 1][0] for at in range(len(value) - 1)]):
        return False
    return max(_sizes(size, value)) <= MOST_SIZE


def is_bar_row(size, value):
    """Whether the value is a bar row whose sizes are at most 6."""
    check_count(size, 1, MOST_POINTS)
    return _is_bar_row(size, value)


def _check_bars(size, bars):
    check_count(size, 1, MOST_POINTS)
    if not _is_bar_row(size, bars):
        raise InvalidParts("no bar row")


def _check_both(size, one, other):
    _check_bars(size, one)
    _check_bars(size, other)


def sizes_of_bars(size, bars):
    """The sizes of a bar row."""
    _check_bars(size, bars)
    return _sizes(size, bars)


def _ranks(size, bars):
    """The dict from all bars to how many bars of the bar row hold all their points."""
    return {(first, last): _rank(bars, first, last) for first, last in _all_bars(size)}


def ranks_of_bars(size, bars):
    """The dict from all bars to how many bars of the bar row hold all their points."""
    _check_bars(size, bars)
    return _ranks(size, bars)


def _bars_of_ranks(size, ranks):
    """The bar row with these ranks."""
    found = []
    for first, last in _all_bars(size):
        longer = ranks.get((first - 1, last), 0) + ranks.get((first, last + 1), 0)
        many = ranks[first, last] - longer + ranks.get((first - 1, last + 1), 0)
        if many > 0:
            found.append(((first, last), many))
    return tuple(found)


def _is_line(plan):
    return plan == Plan.line(plan.size)


def _rank_in(filling, first, last):
    """The rank of the product of the tables from the first to the last point."""
    if first == last:
        return filling.sizes[first]
    found = filling.tables[first]
    for at in range(first + 1, last):
        found = filling.tables[at].times(found)
    return found.rank


def bar_row_of(filling):
    """The bar row of a filling."""
    check_filling(filling)
    if not _is_line(filling.plan):
        raise InvalidOperation("the plan is none of points in a row")
    size = filling.plan.size
    return _bars_of_ranks(size, {bar: _rank_in(filling, bar[0], bar[1]) for bar in _all_bars(size)})


def rank_between(filling, one, other):
    """The rank of the product of the tables from the one point to the other one."""
    check_filling(filling)
    check_point(filling.plan, one)
    check_point(filling.plan, other)
    if not _is_line(filling.plan) or one > other:
        raise InvalidOperation("the plan is none of points in a row, or the points do not ascend")
    return _rank_in(filling, one, other)


def _single_bars(bars):
    """The list of the bars of a bar row, each as often as it stands there."""
    return [bar for bar, many in bars for _ in range(many)]


def filling_of_bars(size, prime, bars):
    """Any filling with this bar row: each bar has a place at each of its points."""
    check_count(size, 1, MOST_POINTS)
    check_prime(prime)
    _check_bars(size, bars)
    singles = _single_bars(bars)
    held = [[at for at, bar in enumerate(singles) if bar[0] <= point <= bar[1]] for point in range(size)]
    tables = []
    for point in range(size - 1):
        height = len(held[point + 1])
        columns = [tuple([1 if other == at else 0 for other in held[point + 1]]) for at in held[point]]
        tables.append(table_with(prime, height, columns))
    return Filling(Plan.line(size), prime, _sizes(size, bars), tuple(tables))


def _hom(one, other):
    """The hom number from the filling of the one bar to that of the other one."""
    return 1 if other[0] <= one[0] <= other[1] <= one[1] else 0


def _ext(one, other):
    """The ext number from the filling of the one bar to that of the other one."""
    return 1 if one[0] < other[0] <= one[1] + 1 <= other[1] else 0


def _homs(one, other):
    """The hom number from the filling of the one bar row to that of the other one."""
    return sum([many * times * _hom(bar, goal) for bar, many in one for goal, times in other])


def bar_homs(size, one, other):
    """The hom number from the filling of the one bar row to that of the other one."""
    _check_both(size, one, other)
    return _homs(one, other)


def bar_exts(size, one, other):
    """The ext number from the filling of the one bar row to that of the other one."""
    _check_both(size, one, other)
    return sum([many * times * _ext(bar, goal) for bar, many in one for goal, times in other])


def joined_bars(size, one, other):
    """What is joined of two bars, or None if their ext number is 0."""
    check_count(size, 1, MOST_POINTS)
    for bar in (one, other):
        if not _is_bar(size, bar):
            raise InvalidPoint("no bar")
    if _ext(one, other) == 0:
        return None
    outer = ((one[0], other[1]), 1)
    return (outer, ((other[0], one[1]), 1)) if other[0] <= one[1] else (outer,)


def are_below(size, one, other):
    """Whether the one bar row is below the other one."""
    _check_both(size, one, other)
    if _sizes(size, one) != _sizes(size, other):
        raise InvalidOperation("the sizes are unlike")
    return all([_rank(one, first, last) <= _rank(other, first, last) for first, last in _all_bars(size)])


def _longer_rows(bar, state):
    """The list of the states behind a bar, for each number of times that it can stand there.

    A state is a triple: the entries as yet, what is left of the sizes, and how many of the bars
    that begin where this one does go on to its end. No more go on than have places behind it.
    Rows that have the bar are less than those without it.
    """
    entries, rest, going = state
    first, last = bar
    going = rest[first] if first == last else going
    beyond = rest[last + 1] if last + 1 < len(rest) else 0
    least = max(going - beyond, 0)
    left = rest[:last] + (rest[last] - going,) + rest[last + 1:]
    found = [(entries + ((bar, many),), left, going - many) for many in range(max(least, 1), going + 1)]
    return found if least > 0 else found + [(entries, left, going)]


def _rows_with(sizes):
    """The ascending list of all bar rows with some sizes. Each state on the way leads to one of them at least."""
    states = [((), sizes, 0)]
    for bar in _all_bars(len(sizes)):
        states = [longer for state in states for longer in _longer_rows(bar, state)]
        if len(states) > MAX_BAR_ROWS:
            raise TooMany(MAX_BAR_ROWS)
    return [entries for entries, _, _ in states]


def _check_row(sizes):
    if not is_row(sizes):
        raise InvalidSizes("no row of sizes")


def bar_rows(sizes):
    """A generator of all bar rows with some sizes, ascending."""
    _check_row(sizes)
    for row in _rows_with(sizes):
        yield row


def greatest_bars(sizes):
    """The bar row that each one with these sizes is below."""
    _check_row(sizes)
    size = len(sizes)
    return _bars_of_ranks(size, {(first, last): min(sizes[first:last + 1]) for first, last in _all_bars(size)})


def _turns_row(bars):
    """The number of the turns that keep the filling of a bar row, as coefficients."""
    squares = sum([many * many for _, many in bars])
    return shifted_row(product_of([turn_row(many) for _, many in bars]), _homs(bars, bars) - squares)


def bar_turns(size, bars):
    """The number of the turns that keep the filling of a bar row, a polynomial."""
    _check_bars(size, bars)
    return poly_of_row(_turns_row(bars))


def bar_fillings(size, bars):
    """The number of the fillings that are alike to that of a bar row, a polynomial."""
    _check_bars(size, bars)
    turns = product_of([turn_row(number) for number in _sizes(size, bars)])
    return poly_of_row(exact_row(turns, _turns_row(bars)))
