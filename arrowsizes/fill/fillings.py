"""Fillings of plans, homs between them, their subs and quotients."""

from arrowsizes.base.checks import check_prime
from arrowsizes.base.numbers import row_plus, unit_row
from arrowsizes.chart.plans import MOST_SIZE, check_plan, check_point, check_sizes
from arrowsizes.errors import InvalidFilling, InvalidOperation, TooMany
from arrowsizes.fill.homs import flat_row, hom_and_ext, hom_maps
from arrowsizes.grid.columns import base_columns, base_leads, cleared, idle_columns, is_within, rank_of
from arrowsizes.grid.tables import Table, are_columns, table_with, zero_table


def _is_table(prime, height, width, value):
    """Whether the value is a table over the prime with these sides."""
    if not isinstance(value, Table) or value.prime != prime:
        return False
    return value.height == height and value.width == width


def are_tables(plan, prime, starts, goals, value):
    """Whether the value is a tuple of tables along the arrows, from some sizes at starts to others at goals."""
    if not isinstance(value, tuple) or len(value) != len(plan.arrows):
        return False
    ends = [(goals[goal], starts[start]) for start, goal in plan.arrows]
    return all([_is_table(prime, high, wide, table) for (high, wide), table in zip(ends, value)])


def _check_base(plan, prime, sizes):
    check_plan(plan)
    check_prime(prime)
    check_sizes(plan, sizes)


def check_filling(value):
    """Raise InvalidFilling unless the value is a filling."""
    if not isinstance(value, Filling):
        raise InvalidFilling("no filling")


def check_together(values):
    """Raise an error unless all of some values, at least one, are fillings that go together."""
    for value in values:
        check_filling(value)
    first = values[0]
    if any([value.plan != first.plan or value.prime != first.prime for value in values]):
        raise InvalidOperation("the plans or the primes are unlike")


def check_fillings(one, other):
    """Raise an error unless both values are fillings that go together."""
    check_together([one, other])


class Filling:
    """Spaces at the points of a plan, and tables along its arrows. It never changes."""

    def __init__(self, plan, prime, sizes, tables):
        _check_base(plan, prime, sizes)
        if not are_tables(plan, prime, sizes, sizes, tables):
            raise InvalidFilling("no tuple of such tables for the arrows")
        self._plan = plan
        self._prime = prime
        self._sizes = sizes
        self._tables = tables

    @classmethod
    def zero(cls, plan, prime, sizes):
        """The filling with tables of 0 alone."""
        _check_base(plan, prime, sizes)
        tables = [zero_table(prime, sizes[goal], sizes[start]) for start, goal in plan.arrows]
        return cls(plan, prime, sizes, tuple(tables))

    @classmethod
    def single(cls, plan, prime, point):
        """The filling with the size 1 at a point, and 0 elsewhere."""
        check_plan(plan)
        check_prime(prime)
        check_point(plan, point)
        return cls.zero(plan, prime, unit_row(plan.size, point))

    @property
    def plan(self):
        """The plan."""
        return self._plan

    @property
    def prime(self):
        """The prime."""
        return self._prime

    @property
    def sizes(self):
        """The sizes."""
        return self._sizes

    @property
    def tables(self):
        """The tables, in the sequence of the arrows."""
        return self._tables

    @property
    def total(self):
        """The sum of the sizes."""
        return sum(self._sizes)

    def summed(self, other):
        """The sum with another filling."""
        check_fillings(self, other)
        sizes = row_plus(self._sizes, other.sizes)
        if any([size > MOST_SIZE for size in sizes]):
            raise TooMany(MOST_SIZE)
        tables = [left.blocks(right) for left, right in zip(self._tables, other.tables)]
        return Filling(self._plan, self._prime, sizes, tuple(tables))

    def changed(self, turns):
        """The filling, changed by a turn for each point."""
        if not _is_hom_shape(self, self, turns) or not all([turn.is_turn for turn in turns]):
            raise InvalidFilling("no tuple of such turns for the points")
        backs = [turn.undone() for turn in turns]
        tables = []
        for (start, goal), table in zip(self._plan.arrows, self._tables):
            tables.append(turns[goal].times(table).times(backs[start]))
        return Filling(self._plan, self._prime, self._sizes, tuple(tables))

    def turned_over(self):
        """The filling of the opposite plan with all tables swapped."""
        tables = tuple([table.swapped() for table in self._tables])
        return Filling(self._plan.opposite(), self._prime, self._sizes, tables)

    def __eq__(self, other):
        return (isinstance(other, Filling) and self._plan == other._plan and self._prime == other._prime
                and self._sizes == other._sizes and self._tables == other._tables)

    def __str__(self):
        told = ", ".join([str(size) for size in self._sizes])
        return f"filling of ({told}) over {self._prime}"


def tables_of_rows(plan, prime, starts, goals, tables):
    """The tables along the arrows, from some sizes at starts to others at goals, that have these rows."""
    made = []
    for (start, goal), rows in zip(plan.arrows, tables):
        made.append(Table(prime, goals[goal], starts[start], rows))
    return tuple(made)


def filling_of_rows(plan, prime, sizes, tables):
    """The filling whose tables have these rows."""
    return Filling(plan, prime, sizes, tables_of_rows(plan, prime, sizes, sizes, tables))


def _is_hom_shape(one, other, value):
    """Whether the value is a tuple of tables for the points that lead from the one filling to the other one."""
    if not isinstance(value, tuple) or len(value) != one.plan.size:
        return False
    ways = []
    for high, wide, table in zip(other.sizes, one.sizes, value):
        ways.append(_is_table(one.prime, high, wide, table))
    return all(ways)


def _is_hom(one, other, value):
    if not _is_hom_shape(one, other, value):
        return False
    ways = []
    for (start, goal), table, reached in zip(one.plan.arrows, one.tables, other.tables):
        ways.append(value[goal].times(table) == reached.times(value[start]))
    return all(ways)


def is_hom(one, other, value):
    """Whether the value is a hom."""
    check_fillings(one, other)
    return _is_hom(one, other, value)


def hom_number(one, other):
    """The free number of the space of all homs."""
    check_fillings(one, other)
    return hom_and_ext(one, other)[0]


def ext_number(one, other):
    """The ext number of both fillings."""
    check_fillings(one, other)
    return hom_and_ext(one, other)[1]


def tables_of_maps(one, other, maps):
    """The hom whose tables have these rows."""
    return tuple([Table(one.prime, high, wide, rows) for high, wide, rows in zip(other.sizes, one.sizes, maps)])


def hom_base(one, other):
    """Any tuple of homs of which each hom is just one sum of multiples."""
    check_fillings(one, other)
    return tuple([tables_of_maps(one, other, maps) for maps in hom_maps(one, other)])


def is_hom_base(one, other, value):
    """Whether the value is such a tuple."""
    check_fillings(one, other)
    if not isinstance(value, tuple) or not all([_is_hom(one, other, hom) for hom in value]):
        return False
    if len(value) != hom_and_ext(one, other)[0]:
        return False
    rows = [flat_row([table.rows for table in hom]) for hom in value]
    return rank_of(one.prime, rows) == len(rows)


def _are_free(prime, height, value):
    """Whether the value is a tuple of free columns."""
    return are_columns(prime, height, value) and rank_of(prime, value) == len(value)


def _are_spaces(filling, value):
    """Whether the value is spaces of the filling."""
    if not isinstance(value, tuple) or len(value) != filling.plan.size:
        return False
    return all([_are_free(filling.prime, size, columns) for size, columns in zip(filling.sizes, value)])


def _is_sub(filling, value):
    if not _are_spaces(filling, value):
        return False
    leads = [base_leads(filling.prime, columns) for columns in value]
    ways = []
    for (start, goal), table in zip(filling.plan.arrows, filling.tables):
        ways.append(is_within(filling.prime, [table.leading(column) for column in value[start]], leads[goal]))
    return all(ways)


def is_sub(filling, value):
    """Whether the value is spaces that are a sub."""
    check_filling(filling)
    return _is_sub(filling, value)


def plain_spaces(filling, spaces):
    """The plain spaces of some spaces."""
    check_filling(filling)
    if not _are_spaces(filling, spaces):
        raise InvalidOperation("no spaces of the filling")
    return tuple([base_columns(filling.prime, columns) for columns in spaces])


def _check_sub(filling, spaces):
    check_filling(filling)
    if not _is_sub(filling, spaces):
        raise InvalidOperation("the spaces are no sub")


def sub_filling(filling, spaces):
    """A sub as a filling, in the coordinates of its base."""
    _check_sub(filling, spaces)
    return filling_on(filling, spaces)


def quotient_filling(filling, spaces):
    """The quotient by a sub as a filling, in the coordinates at the indices without leads."""
    _check_sub(filling, spaces)
    return filling_off(filling, spaces)


def filling_on(filling, spaces):
    """A sub as a filling, unchecked: the coordinates of its base are the entries at the leads."""
    prime = filling.prime
    leads = [base_leads(prime, columns) for columns in spaces]
    tables = []
    for (start, goal), table in zip(filling.plan.arrows, filling.tables):
        reached = [table.leading(column) for column in leads[start].values()]
        columns = [tuple([column[lead] for lead in leads[goal]]) for column in reached]
        tables.append(table_with(prime, len(leads[goal]), columns))
    return Filling(filling.plan, prime, tuple([len(columns) for columns in spaces]), tuple(tables))


def filling_off(filling, spaces):
    """The quotient by a sub as a filling, unchecked."""
    prime = filling.prime
    leads = [base_leads(prime, columns) for columns in spaces]
    free = [[at for at in range(size) if at not in told] for size, told in zip(filling.sizes, leads)]
    tables = []
    for (start, goal), table in zip(filling.plan.arrows, filling.tables):
        units = idle_columns(filling.sizes[start])
        reached = [cleared(prime, table.leading(units[at]), leads[goal]) for at in free[start]]
        columns = [tuple([column[at] for at in free[goal]]) for column in reached]
        tables.append(table_with(prime, len(free[goal]), columns))
    return Filling(filling.plan, prime, tuple([len(told) for told in free]), tuple(tables))


def _check_hom(one, other, hom):
    check_fillings(one, other)
    if not _is_hom(one, other, hom):
        raise InvalidOperation("no hom")


def kernel_of(one, other, hom):
    """The plain spaces of the kernel of a hom, a sub of the one filling."""
    _check_hom(one, other, hom)
    return tuple([table.kernel() for table in hom])


def image_of(one, other, hom):
    """The plain spaces of the image of a hom, a sub of the other filling."""
    _check_hom(one, other, hom)
    return tuple([table.image() for table in hom])
