"""Tables of residues modulo a prime, as maps of columns."""

from arrowsizes.base.checks import check_prime
from arrowsizes.base.numbers import are_counts, check_count, check_integer, power_of
from arrowsizes.errors import InvalidOperation, InvalidTable, TooMany
from arrowsizes.grid.columns import all_bases, base_columns, base_leads, dot, idle_columns, kernel_columns, rank_of
from arrowsizes.grid.columns import solution, swapped_rows, turn_rows
from arrowsizes.poly.polys import gauss_row, poly_of_row
from arrowsizes.poly.rows import product_row, trimmed, value_of

MAX_SIDE = 36
MAX_TURNS = 20000
MAX_SPACES = 3000
_MOST_COUNTED = 12


def is_column(prime, height, value):
    """Whether the value is a column of this height."""
    return are_counts(value, 0, prime - 1) and len(value) == height


def are_columns(prime, height, value):
    """Whether the value is a tuple of columns of this height."""
    return isinstance(value, tuple) and all([is_column(prime, height, column) for column in value])


def _check_table(value):
    if not isinstance(value, Table):
        raise InvalidTable("no table")


class Table:
    """A table of residues modulo a prime. It never changes."""

    def __init__(self, prime, height, width, rows):
        check_prime(prime)
        check_count(height, 0, MAX_SIDE)
        check_count(width, 0, MAX_SIDE)
        if not are_columns(prime, width, rows) or len(rows) != height:
            raise InvalidTable("no tuple of so many rows of so many residues")
        self._prime = prime
        self._height = height
        self._width = width
        self._sides = (prime, height, width)
        self._rows = rows

    @property
    def prime(self):
        """The prime."""
        return self._prime

    @property
    def height(self):
        """The number of the rows."""
        return self._height

    @property
    def width(self):
        """The number of the columns."""
        return self._width

    @property
    def rows(self):
        """The tuple of the rows."""
        return self._rows

    @property
    def rank(self):
        """The free number of the image."""
        return rank_of(self._prime, self._rows)

    @property
    def is_turn(self):
        """Whether the height, the width and the rank are equal."""
        return self._height == self._width == rank_of(self._prime, self._rows)

    def entry_at(self, row, column):
        """The residue there."""
        check_count(row, 0, self._height - 1)
        check_count(column, 0, self._width - 1)
        return self._rows[row][column]

    def plus(self, other):
        """The table of the sums."""
        return self._combined(other, 1)

    def minus(self, other):
        """The table of the differences."""
        return self._combined(other, -1)

    def _combined(self, other, factor):
        """This table and a multiple of another one, added."""
        _check_table(other)
        if self._sides != other._sides:
            raise InvalidOperation("the primes or the sides are unlike")
        rows = []
        for row, added in zip(self._rows, other.rows):
            rows.append([left + factor * right for left, right in zip(row, added)])
        return table_of(self._prime, self._height, self._width, rows)

    def times(self, other):
        """The product, which leads as the other table does, and then this one."""
        _check_table(other)
        if self._prime != other.prime or self._width != other.height:
            raise InvalidOperation("the tables do not fit")
        columns = swapped_rows(other.rows, other.width)
        rows = [[dot(self._prime, row, column) for column in columns] for row in self._rows]
        return table_of(self._prime, self._height, other.width, rows)

    def scaled(self, number):
        """The table, multiplied by an integer."""
        check_integer(number)
        rows = [[residue * number for residue in row] for row in self._rows]
        return table_of(self._prime, self._height, self._width, rows)

    def leading(self, column):
        """The column to which a column is led."""
        if not is_column(self._prime, self._width, column):
            raise InvalidOperation("no column as high as the table is wide")
        return tuple([dot(self._prime, row, column) for row in self._rows])

    def solved(self, column):
        """Any column that is led to this one, or None."""
        if not is_column(self._prime, self._height, column):
            raise InvalidOperation("no column as high as the table")
        return solution(self._prime, self._rows, self._width, column)

    def kernel(self):
        """The base of the columns that are led to zeros."""
        return kernel_columns(self._prime, self._rows, self._width)

    def image(self):
        """The base of the columns to which columns are led."""
        return base_columns(self._prime, swapped_rows(self._rows, self._width))

    def swapped(self):
        """The table with rows for columns."""
        return Table(self._prime, self._width, self._height, swapped_rows(self._rows, self._width))

    def undone(self):
        """The turn that undoes this turn."""
        if not self.is_turn:
            raise InvalidOperation("no turn")
        size = self._height
        joined = [row + idle for row, idle in zip(self._rows, idle_columns(size))]
        rows = [row[size:] for row in base_columns(self._prime, joined)]
        return table_of(self._prime, size, size, rows)

    def blocks(self, other):
        """Both tables along the diagonal, with 0 elsewhere."""
        _check_table(other)
        if self._prime != other.prime:
            raise InvalidOperation("the primes are unlike")
        height, width = self._height + other.height, self._width + other.width
        if height > MAX_SIDE or width > MAX_SIDE:
            raise TooMany(MAX_SIDE)
        upper = [row + (0,) * other.width for row in self._rows]
        lower = [(0,) * self._width + row for row in other.rows]
        return table_of(self._prime, height, width, upper + lower)

    def __eq__(self, other):
        return isinstance(other, Table) and self._sides == other._sides and self._rows == other._rows

    def __str__(self):
        return f"table of {self._height} by {self._width} modulo {self._prime}"


def table_of(prime, height, width, rows):
    """The table of rows of any integers, taken modulo the prime."""
    return Table(prime, height, width, tuple([tuple([number % prime for number in row]) for row in rows]))


def table_with(prime, height, columns):
    """The table with these columns."""
    return Table(prime, height, len(columns), swapped_rows(columns, height))


def idle_table(prime, size):
    """The table that leads each column to itself."""
    check_prime(prime)
    check_count(size, 0, MAX_SIDE)
    return Table(prime, size, size, idle_columns(size))


def zero_table(prime, height, width):
    """The table with 0 alone."""
    check_prime(prime)
    check_count(height, 0, MAX_SIDE)
    check_count(width, 0, MAX_SIDE)
    return Table(prime, height, width, ((0,) * width,) * height)


def _check_columns(prime, height, columns):
    check_prime(prime)
    check_count(height, 0, MAX_SIDE)
    if not are_columns(prime, height, columns) or len(columns) > MAX_SIDE:
        raise InvalidOperation("no tuple of at most 36 columns of this height")


def base_of(prime, height, columns):
    """The base of the space that columns make."""
    _check_columns(prime, height, columns)
    return base_columns(prime, columns)


def free_rest(prime, height, columns):
    """The ascending tuple of the indices at which the base of this space has no lead."""
    _check_columns(prime, height, columns)
    leads = base_leads(prime, columns)
    return tuple([at for at in range(height) if at not in leads])


def turn_number(prime, size):
    """The number of all turns of a size."""
    check_prime(prime)
    check_count(size, 0, MAX_SIDE)
    found, all_rows, made = 1, power_of(prime, size), 1
    for _ in range(size):
        found = found * (all_rows - made)
        made = made * prime
    return found


def turns(prime, size):
    """A generator of all turns of a size, ascending by their rows."""
    if turn_number(prime, size) > MAX_TURNS:
        raise TooMany(MAX_TURNS)
    for rows in turn_rows(prime, size):
        yield Table(prime, size, size, rows)


def tables_of_rank(height, width, rank):
    """The number of the tables of these sides and this rank, a polynomial.

    A table of a rank is told by its image and by a table of that rank that is as high as the rank.
    """
    for value in (height, width, rank):
        check_count(value, 0, _MOST_COUNTED)
    found = gauss_row(height, rank)
    for power in range(rank):
        free = [0] * (max(power, width) + 1)
        free[width] += 1
        free[power] -= 1
        found = product_row(found, trimmed(free))
    return poly_of_row(found)


def spaces(prime, height, number):
    """A generator of the bases of all spaces of a height with a free number, ascending."""
    check_prime(prime)
    check_count(height, 0, _MOST_COUNTED)
    check_count(number, 0, _MOST_COUNTED)
    if value_of(gauss_row(height, number), prime) > MAX_SPACES:
        raise TooMany(MAX_SPACES)
    for base in all_bases(prime, height, number):
        yield base
