"""The numbers of kinds of fillings, by the fillings that turns keep. Nothing here knows of polynomials."""

from arrowsizes.base.checks import check_prime
from arrowsizes.base.lots import parts_of_lots
from arrowsizes.base.numbers import all_choices, lowest_terms, power_of, rows_to
from arrowsizes.chart.plans import MOST_SIZE, check_plan, check_sizes
from arrowsizes.errors import InvalidTable, TooMany
from arrowsizes.fill.fillings import check_filling, filling_of_rows
from arrowsizes.fill.homs import flat_row, hom_maps
from arrowsizes.fixed.orbits import fillings_number, kinds_with_numbers
from arrowsizes.grid.columns import rank_of, turn_rows
from arrowsizes.grid.tables import Table, turn_number

MAX_TURNED = 20000
MAX_FILLED = 4096


def _is_turn(value):
    return isinstance(value, Table) and value.is_turn


def _are_turns(plan, value):
    """Whether the value is a tuple of a turn for each point, all modulo one prime."""
    if not isinstance(value, tuple) or len(value) != plan.size or not all([_is_turn(turn) for turn in value]):
        return False
    return all([turn.prime == value[0].prime for turn in value])


def are_turns_for(plan, sizes, value):
    """Whether the value is turns for sizes, modulo any prime."""
    check_sizes(plan, sizes)
    return _are_turns(plan, value) and tuple([turn.height for turn in value]) == sizes


def _kept_exponent(prime, start_rows, goal_rows):
    """The free number of the tables x with the turn at the goal behind x equal to x behind the turn at the start."""
    wide, high = len(start_rows), len(goal_rows)
    equations = []
    for row in range(high):
        for column in range(wide):
            entries = [0] * (wide * high)
            for inner in range(high):
                entries[inner * wide + column] += goal_rows[row][inner]
            for inner in range(wide):
                entries[row * wide + inner] -= start_rows[inner][column]
            equations.append(tuple([entry % prime for entry in entries]))
    return wide * high - rank_of(prime, equations)


def fixed_number(plan, turned):
    """The number of the fillings that turns keep."""
    check_plan(plan)
    if not _are_turns(plan, turned) or any([turn.height > MOST_SIZE for turn in turned]):
        raise InvalidTable("no tuple of such turns for the points")
    prime = turned[0].prime
    exponents = [_kept_exponent(prime, turned[start].rows, turned[goal].rows) for start, goal in plan.arrows]
    return power_of(prime, sum(exponents))


def _all_turns_number(prime, sizes):
    """The number of all turns for sizes."""
    found = 1
    for size in sizes:
        found = found * turn_number(prime, size)
    return found


def _exponent_table(prime, ones, others):
    """The rows of the exponents of all pairs of turns at the start and the goal of an arrow."""
    return [[_kept_exponent(prime, one, other) for other in others] for one in ones]


class TurnLists:
    """The turns of all sizes up to some bounds, in lists, and the exponents of pairs of them."""

    def __init__(self, plan, prime, bound):
        self._arrows = plan.arrows
        self._prime = prime
        self._lists = [turn_rows(prime, size) for size in range(max(bound) + 1)]
        self._exponents = {}
        for start, goal in plan.arrows:
            for pair in all_choices([list(range(bound[start] + 1)), list(range(bound[goal] + 1))]):
                if pair not in self._exponents:
                    ones, others = self._lists[pair[0]], self._lists[pair[1]]
                    self._exponents[pair] = _exponent_table(prime, ones, others)

    def kinds(self, sizes):
        """The number of kinds of the sizes."""
        tables = [(start, goal, self._exponents[sizes[start], sizes[goal]]) for start, goal in self._arrows]
        powers = [1]
        for start, goal in self._arrows:
            for _ in range(sizes[start] * sizes[goal]):
                powers.append(powers[-1] * self._prime)
        total, many = 0, 0
        for turned in all_choices([list(range(len(self._lists[size]))) for size in sizes]):
            total = total + powers[sum([table[turned[start]][turned[goal]] for start, goal, table in tables])]
            many = many + 1
        return total // many


def _check_turned(plan, sizes, prime):
    check_sizes(plan, sizes)
    check_prime(prime)
    if _all_turns_number(prime, sizes) > MAX_TURNED:
        raise TooMany(MAX_TURNED)


def kinds_number(plan, sizes, prime):
    """The number of kinds of told sizes."""
    _check_turned(plan, sizes, prime)
    return TurnLists(plan, prime, sizes).kinds(sizes)


def unsplittable_number(plan, sizes, prime):
    """The number of unsplittable kinds of told sizes, by the numbers of kinds of all sizes up to them."""
    _check_turned(plan, sizes, prime)
    lists = TurnLists(plan, prime, sizes)
    kinds = {row: lists.kinds(row) for row in rows_to(sizes)}
    return parts_of_lots(sizes, kinds).get(sizes, 0)


def kinds_mass(plan, sizes, prime):
    """The mass of the sizes, a fraction."""
    check_sizes(plan, sizes)
    check_prime(prime)
    return lowest_terms(fillings_number(plan, prime, sizes), _all_turns_number(prime, sizes))


def all_kinds(plan, sizes, prime):
    """A generator of the least filling of each kind, ascending by the rows of all tables."""
    check_sizes(plan, sizes)
    check_prime(prime)
    if fillings_number(plan, prime, sizes) > MAX_FILLED:
        raise TooMany(MAX_FILLED)
    for tables, _ in kinds_with_numbers(plan, prime, sizes):
        yield filling_of_rows(plan, prime, sizes, tables)


def _all_sums(prime, rows, width):
    """The list of all sums of multiples of some rows of a width."""
    found = [(0,) * width]
    for row in rows:
        multiples = [tuple([factor * residue % prime for residue in row]) for factor in range(prime)]
        found = [_sum_of(prime, one, other) for one in found for other in multiples]
    return found


def _sum_of(prime, one, other):
    return tuple([(left + right) % prime for left, right in zip(one, other)])


def _is_turned(prime, sizes, entries):
    """Whether the entries of square tables of some sizes, one after the other, are those of turns."""
    begin = 0
    for size in sizes:
        rows = [entries[begin + row * size:begin + row * size + size] for row in range(size)]
        if rank_of(prime, rows) < size:
            return False
        begin = begin + size * size
    return True


def keepers_number(filling):
    """The number of the turns that keep a filling: they are those among all its endomorphisms."""
    check_filling(filling)
    prime, sizes = filling.prime, filling.sizes
    base = [flat_row(maps) for maps in hom_maps(filling, filling)]
    if power_of(prime, len(base)) > MAX_TURNED:
        raise TooMany(MAX_TURNED)
    sums = _all_sums(prime, base, sum([size * size for size in sizes]))
    return len([entries for entries in sums if _is_turned(prime, sizes, entries)])


def orbit_number(filling):
    """The number of the fillings that are alike to a filling."""
    keepers = keepers_number(filling)
    return _all_turns_number(filling.prime, filling.sizes) // keepers
