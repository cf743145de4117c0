"""Mirrored fillings, and the roots and unsplittable fillings of plans of the finite sort."""

from arrowsizes.base.checks import check_prime
from arrowsizes.base.numbers import are_counts, is_count, row_count, row_less, rows_to, unit_row
from arrowsizes.chart.plans import MOST_SIZE, check_plan, check_point, check_sizes, sort_of
from arrowsizes.errors import InvalidOperation, TooMany
from arrowsizes.fill.fillings import Filling, check_filling
from arrowsizes.fill.homs import hom_and_ext
from arrowsizes.grid.columns import base_leads, cleared, idle_columns, kernel_columns, rank_of, swapped_rows
from arrowsizes.grid.tables import table_with
from arrowsizes.origin.roots import is_root

_MOST_ROWS = 3000
_FINITE = "finite"


def _check_end(filling, point):
    check_filling(filling)
    check_point(filling.plan, point)
    if point not in filling.plan.sinks() + filling.plan.sources():
        raise InvalidOperation("the point is neither a sink nor a source")


def _parts_beside(filling, point):
    """The list of the triples (index of an arrow at the point, first place, end) of the spaces at the other ends."""
    found, begin = [], 0
    for at, (start, goal) in enumerate(filling.plan.arrows):
        if point in (start, goal):
            end = begin + filling.sizes[goal if start == point else start]
            found.append((at, begin, end))
            begin = end
    return found


def _joint_rows(filling, point):
    """The rows of the joint table at a sink or a source."""
    tables = [filling.tables[at] for at, _, _ in _parts_beside(filling, point)]
    if point not in filling.plan.sinks():
        return [row for table in tables for row in table.rows]
    rows = [()] * filling.sizes[point]
    for table in tables:
        rows = [longer + row for longer, row in zip(rows, table.rows)]
    return rows


def _new_tables(filling, point):
    """The size of the mirrored filling at the point, and the dict from the arrows there to their tables' columns."""
    prime, parts, rows = filling.prime, _parts_beside(filling, point), _joint_rows(filling, point)
    many = parts[-1][2] if parts else 0
    if point in filling.plan.sinks():
        kernel = kernel_columns(prime, rows, many)
        return len(kernel), {at: [column[begin:end] for column in kernel] for at, begin, end in parts}
    leads = base_leads(prime, swapped_rows(rows, filling.sizes[point]))
    free = [at for at in range(many) if at not in leads]
    reached = []
    for column in idle_columns(many):
        rest = cleared(prime, column, leads)
        reached.append(tuple([rest[at] for at in free]))
    return len(free), {at: reached[begin:end] for at, begin, end in parts}


def _mirrored(filling, point):
    """The mirrored filling at a sink or a source."""
    size, columns = _new_tables(filling, point)
    if size > MOST_SIZE:
        raise TooMany(MOST_SIZE)
    sizes = filling.sizes[:point] + (size,) + filling.sizes[point + 1:]
    plan, tables = filling.plan.turned_at(point), []
    for at, (_, goal) in enumerate(plan.arrows):
        told = at in columns
        tables.append(table_with(filling.prime, sizes[goal], columns[at]) if told else filling.tables[at])
    return Filling(plan, filling.prime, sizes, tuple(tables))


def mirrored(filling, point):
    """Any filling that is alike to the mirrored one."""
    _check_end(filling, point)
    return _mirrored(filling, point)


def point_parts(filling, point):
    """How often the point filling stands in the filling."""
    _check_end(filling, point)
    return filling.sizes[point] - rank_of(filling.prime, _joint_rows(filling, point))


def _check_finite(plan):
    if sort_of(plan) != _FINITE:
        raise InvalidOperation("the plan is not of the finite sort")


def _check_root(plan, sizes):
    check_sizes(plan, sizes)
    _check_finite(plan)
    if not is_root(plan, sizes):
        raise InvalidOperation("the sizes are no root")


def _sink_order(plan):
    """All points, each of them a sink of the plan turned at all earlier ones. Turned at all, the plan is as before."""
    found = []
    while len(found) < plan.size:
        for point in range(plan.size):
            goals = [goal for start, goal in plan.arrows if start == point]
            if point not in found and all([goal in found for goal in goals]):
                found.append(point)
    return found


def _sink_word(plan, sizes):
    """A sink word of a root, by rounds through all points: no root goes through all rounds without a number below 0."""
    order = _sink_order(plan)
    word, now = (), sizes
    while sum(now) > 1:
        point = order[len(word) % plan.size]
        word, now = word + (point,), plan.reflected(now, point)
    return word, now.index(1)


def sink_word(plan, sizes):
    """Any sink word of a root."""
    _check_root(plan, sizes)
    return _sink_word(plan, sizes)


def _is_way(plan, sizes, word, end):
    """Whether a word leads from a root to the unit row of a point.

    Of all roots unit rows alone get a number below 0 when they are reflected, and they stand at the end.
    """
    turned, now = plan, sizes
    for point in word:
        if point not in turned.sinks() or sum(now) == 1:
            return False
        turned, now = turned.turned_at(point), plan.reflected(now, point)
    return now == unit_row(plan.size, end)


def is_sink_word(plan, sizes, value):
    """Whether the value is a sink word of the root."""
    _check_root(plan, sizes)
    if not isinstance(value, tuple) or len(value) != 2:
        return False
    word, end = value
    if not are_counts(word, 0, plan.size - 1) or not is_count(end, 0, plan.size - 1):
        return False
    return _is_way(plan, sizes, word, end)


def _filling_of_root(plan, prime, sizes):
    """The unsplittable filling with these sizes, mirrored back along a sink word."""
    word, end = _sink_word(plan, sizes)
    turned = plan
    for point in word:
        turned = turned.turned_at(point)
    found = Filling.single(turned, prime, end)
    for point in reversed(word):
        found = _mirrored(found, point)
    return found


def filling_of_root(plan, prime, sizes):
    """Any unsplittable filling whose sizes are this root."""
    check_plan(plan)
    check_prime(prime)
    _check_root(plan, sizes)
    return _filling_of_root(plan, prime, sizes)


def _roots(plan):
    """The ascending tuple of all roots of a finite plan: reflections make them all of the unit rows."""
    found = [unit_row(plan.size, point) for point in range(plan.size)]
    todo = list(found)
    while todo:
        row = todo.pop()
        for point in range(plan.size):
            other = plan.reflected(row, point)
            if other[point] >= 0 and other not in found:
                found.append(other)
                todo.append(other)
    return tuple(sorted(found))


def finite_roots(plan):
    """The ascending tuple of all roots of a plan of the finite sort."""
    _check_finite(plan)
    return _roots(plan)


def _hom_table(plan):
    """The dict from all pairs of roots of a finite plan to the hom number of their fillings."""
    roots = _roots(plan)
    return {(one, other): max(plan.form(one, other), 0) for one in roots for other in roots}


def hom_table(plan):
    """The dict from all pairs of roots to the hom number of their unsplittable fillings."""
    _check_finite(plan)
    return _hom_table(plan)


def root_parts(filling):
    """The dict from the roots that stand in a filling to how often they do.

    The hom numbers to the filling tell it, if a root's turn comes when all others to which
    its filling has homs are known: there are no rings of homs here.
    """
    check_filling(filling)
    _check_finite(filling.plan)
    table, found, left = _hom_table(filling.plan), {}, list(_roots(filling.plan))
    while left:
        ready = [one for one in left if not any([table[one, other] > 0 for other in left if other != one])]
        for root in ready:
            number = hom_and_ext(_filling_of_root(filling.plan, filling.prime, root), filling)[0]
            known = sum([table[root, other] * many for other, many in found.items()])
            found[root] = number - known
        left = [one for one in left if one not in ready]
    return {root: found[root] for root in sorted(list(found)) if found[root] > 0}


def root_sums(plan, sizes):
    """The number of ways to write the sizes as a sum of roots."""
    check_sizes(plan, sizes)
    _check_finite(plan)
    if row_count(sizes) > _MOST_ROWS:
        raise TooMany(_MOST_ROWS)
    rows = rows_to(sizes)
    ways = {row: 0 for row in rows}
    ways[rows[0]] = 1
    for root in _roots(plan):
        for row in rows:
            ways[row] = ways[row] + ways.get(row_less(row, root), 0)
    return ways[sizes]
