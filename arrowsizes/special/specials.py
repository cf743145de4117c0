"""Two arrows from one point to another one, and lines through a plane."""

from arrowsizes.base.checks import check_prime
from arrowsizes.base.numbers import are_counts, check_count, is_count, is_integer, is_zero_row
from arrowsizes.chart.plans import MOST_SIZE, Plan
from arrowsizes.errors import InvalidFilling, InvalidOperation, InvalidSizes
from arrowsizes.fill.fillings import Filling, filling_of_rows
from arrowsizes.grid.columns import idle_columns, swapped_rows
from arrowsizes.grid.tables import table_with
from arrowsizes.poly.polys import poly_of_row
from arrowsizes.poly.rows import exact_row, power_row, sum_row, trimmed
from arrowsizes.special.residues import is_simple, power_modulo, with_degree
from arrowsizes.split.splits import parts_of

MAX_PLACE = 4
MAX_ARMS = 5
_MORE = "more"
_LESS = "less"
_PLACE = "place"
_ENDLESS = ()
# The columns of the first three lines of a pattern.
_FIRST_LINES = ((1, 0), (0, 1), (1, 1))


def places(prime, degree):
    """The ascending tuple of all places of a degree."""
    check_prime(prime)
    check_count(degree, 1, MAX_PLACE)
    found = [row for row in with_degree(prime, degree) if is_simple(prime, row)]
    return tuple([_ENDLESS] + found if degree == 1 else found)


def _degree(place):
    """The degree of a place."""
    return 1 if place == _ENDLESS else len(place) - 1


def _is_place(prime, value):
    """Whether the value is a place of a degree that is at most the greatest size."""
    if value == _ENDLESS:
        return True
    if not are_counts(value, 0, prime - 1) or not 2 <= len(value) <= MOST_SIZE + 1:
        return False
    return value[-1] == 1 and is_simple(prime, value)


def _is_label(prime, value):
    if not isinstance(value, tuple) or len(value) not in (2, 3):
        return False
    if len(value) == 2:
        return value[0] in (_MORE, _LESS) and is_count(value[1], 0, MOST_SIZE - 1)
    if value[0] != _PLACE or not _is_place(prime, value[1]):
        return False
    return is_count(value[2], 1, MOST_SIZE // _degree(value[1]))


def is_label(prime, value):
    """Whether the value is a label with sizes of at most 6."""
    check_prime(prime)
    return _is_label(prime, value)


def _label_sizes(label):
    if label[0] == _PLACE:
        return (_degree(label[1]) * label[2],) * 2
    return (label[1] + 1, label[1]) if label[0] == _MORE else (label[1], label[1] + 1)


def _block_rows(prime, row):
    """The rows of the square table with 1 just below the diagonal, and less a polynomial's residues in the last column.

    Its powers tell 0 if they are put into the polynomial.
    """
    size = len(row) - 1
    columns = idle_columns(size)[1:] + (tuple([-residue % prime for residue in row[:-1]]),)
    return swapped_rows(columns, size)


def _label_tables(prime, label):
    """The rows of both tables that a label tells."""
    if label[0] == _MORE:
        columns = idle_columns(label[1] + 1)
        return columns[:-1], columns[1:]
    if label[0] == _LESS:
        columns = idle_columns(label[1] + 1)
        return swapped_rows(columns[:-1], label[1] + 1), swapped_rows(columns[1:], label[1] + 1)
    place, many = label[1:]
    if place == _ENDLESS:
        return _block_rows(prime, (0,) * many + (1,)), idle_columns(many)
    row = power_modulo(prime, place, many)
    return idle_columns(len(row) - 1), _block_rows(prime, row)


def _two_filling(prime, label):
    return filling_of_rows(Plan.twins(2), prime, _label_sizes(label), _label_tables(prime, label))


def two_filling(prime, label):
    """The filling that a label tells."""
    check_prime(prime)
    if not _is_label(prime, label):
        raise InvalidOperation("no label with sizes of at most 6")
    return _two_filling(prime, label)


def _led_on(table, column):
    """The list of a column, of the one to which it is led, and so on, one more than the table is high."""
    found = [column]
    for _ in range(table.height):
        found.append(table.leading(found[-1]))
    return found


def _own_polynomial(table):
    """The polynomial of least degree into which a square table can be put with 0 as the result.

    The table is one of those for which some idle column is led to free ones.
    """
    prime, size = table.prime, table.height
    ways = [_led_on(table, column) for column in idle_columns(size)]
    led = [way for way in ways if table_with(prime, size, way[:-1]).is_turn][0]
    factors = table_with(prime, size, led[:-1]).solved(led[-1])
    return tuple([-factor % prime for factor in factors]) + (1,)


def _root_of(prime, row):
    """The polynomial of least degree of which this one is a power, and the exponent."""
    size = len(row) - 1
    for degree in range(1, size):
        if size % degree == 0:
            for part in with_degree(prime, degree):
                if power_modulo(prime, part, size // degree) == row:
                    return part, size // degree
    return row, 1


def _label_of(part):
    """The label of an unsplittable filling."""
    high, low = part.sizes
    if high != low:
        return (_MORE, low) if high > low else (_LESS, high)
    if not part.tables[0].is_turn:
        return _PLACE, _ENDLESS, high
    row = _own_polynomial(part.tables[1].times(part.tables[0].undone()))
    return (_PLACE,) + _root_of(part.prime, row)


def two_kind(filling):
    """The dict from the labels of the parts of a filling to how often they stand in it, ascending."""
    if not isinstance(filling, Filling) or filling.plan != Plan.twins(2):
        raise InvalidFilling("no filling of two arrows")
    labels = sorted([_label_of(part) for part in parts_of(filling)])
    return {label: labels.count(label) for label in labels}


def _is_kind(prime, value):
    """Whether the value is a dict from labels to integers of at least 1 with sizes that add up to at most 6."""
    if not isinstance(value, dict):
        return False
    if not all([_is_label(prime, label) and is_integer(many) and many >= 1 for label, many in value.items()]):
        return False
    pairs = [(_label_sizes(label), many) for label, many in value.items()]
    return all([sum([sizes[at] * many for sizes, many in pairs]) <= MOST_SIZE for at in (0, 1)])


def two_of_kind(prime, kind):
    """The sum of the fillings of the labels, ascending, each as often as told."""
    check_prime(prime)
    if not _is_kind(prime, kind):
        raise InvalidOperation("no kind with sizes of at most 6")
    found = Filling.zero(Plan.twins(2), prime, (0, 0))
    for label in sorted(list(kind)):
        for _ in range(kind[label]):
            found = found.summed(_two_filling(prime, label))
    return found


def two_poly(sizes):
    """The polynomial of sizes of two arrows."""
    if not are_counts(sizes, 0, MOST_SIZE) or len(sizes) != 2 or is_zero_row(sizes):
        raise InvalidSizes("no pair of integers from 0 to 6, not both 0")
    gap = abs(sizes[0] - sizes[1])
    return poly_of_row((1, 1) if gap == 0 else (1,) if gap == 1 else ())


def _are_lines(value):
    """Whether the value is a filling of lines through a plane."""
    if not isinstance(value, Filling) or value.plan.size < 2 or value.sizes != (2,) + (1,) * (value.plan.size - 1):
        return False
    return value.plan == Plan.star(value.plan.size - 1)


def _area(prime, one, other):
    """The determinant of two columns of the height 2; it is 0 exactly if they lie on one line."""
    return (one[0] * other[1] - one[1] * other[0]) % prime


def _cross_number(prime, lines, column):
    """The cross number of the line of a column, by columns of the lines 0, 1 and 2.

    Turns and factors leave this quotient as it is, and for the columns of a pattern it is as told.
    """
    first, second, third = lines
    top = _area(prime, first, column) * _area(prime, third, second)
    bottom = _area(prime, first, third) * _area(prime, column, second)
    return [number for number in range(prime) if (number * bottom - top) % prime == 0][0]


def _line_numbers(prime, columns):
    """For each column the number of its line or None, and a column of each line."""
    numbers, lines = [], []
    for column in columns:
        same = [at for at, line in enumerate(lines) if _area(prime, line, column) == 0]
        if is_zero_row(column):
            numbers.append(None)
        elif same:
            numbers.append(same[0])
        else:
            numbers.append(len(lines))
            lines.append(column)
    return tuple(numbers), lines


def line_pattern(filling):
    """The pattern of lines through a plane."""
    if not _are_lines(filling):
        raise InvalidFilling("no filling of lines through a plane")
    prime = filling.prime
    columns = [tuple([row[0] for row in table.rows]) for table in filling.tables]
    numbers, lines = _line_numbers(prime, columns)
    return numbers, tuple([_cross_number(prime, lines[:3], column) for column in lines[3:]])


def _are_numbers(arms, value):
    """Whether the value tells for so many arms None or the numbers of lines, numbered by their first arms."""
    if not isinstance(value, tuple) or len(value) != arms:
        return False
    many = 0
    for number in value:
        if number is not None:
            if not is_count(number, 0, many):
                return False
            many = max(many, number + 1)
    return True


def _lines_in(numbers):
    """How many lines some numbers tell."""
    return max([number + 1 for number in numbers if number is not None], default=0)


def _is_line_pattern(prime, arms, value):
    if not isinstance(value, tuple) or len(value) != 2 or not _are_numbers(arms, value[0]):
        return False
    numbers, crosses = value
    if not are_counts(crosses, 2, prime - 1) or len(crosses) != max(_lines_in(numbers) - 3, 0):
        return False
    return all([crosses.count(number) == 1 for number in crosses])


def _check_arms(prime, arms):
    check_prime(prime)
    check_count(arms, 1, MAX_ARMS)


def is_line_pattern(prime, arms, value):
    """Whether the value is a pattern of so many arms."""
    _check_arms(prime, arms)
    return _is_line_pattern(prime, arms, value)


def lines_of_pattern(prime, arms, pattern):
    """The filling with a pattern, with the columns that tell it."""
    _check_arms(prime, arms)
    if not _is_line_pattern(prime, arms, pattern):
        raise InvalidOperation("no pattern of so many arms")
    numbers, crosses = pattern
    lines = _FIRST_LINES + tuple([(1, number) for number in crosses])
    columns = [(0, 0) if number is None else lines[number] for number in numbers]
    tables = [swapped_rows((column,), 2) for column in columns]
    return filling_of_rows(Plan.star(arms), prime, (2,) + (1,) * arms, tables)


def lines_poly(arms):
    """The polynomial of lines through a plane."""
    check_count(arms, 1, MAX_ARMS)
    # The powers of q + 1 less its first term, divided by q; what is taken away is the sum of these coefficients.
    row = power_row((1, 1), arms - 1)[1:]
    return poly_of_row(exact_row(sum_row(row, trimmed((sum(row),)), -1), (-1, 1)))


def lines_kinds(prime, arms):
    """The number of all patterns of so many arms: each arm has no line, one that is there, or a further one."""
    _check_arms(prime, arms)
    ways = {0: 1}
    for _ in range(arms):
        longer = {}
        for lines, many in ways.items():
            further = 1 if lines < 3 else prime + 1 - lines
            longer[lines] = longer.get(lines, 0) + many * (lines + 1)
            longer[lines + 1] = many * further
        ways = longer
    return sum(list(ways.values()))
