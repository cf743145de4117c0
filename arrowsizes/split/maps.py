"""Endomorphisms of a filling as tuples of the rows of square tables, one for each point.

Such a tuple is *nilpotent* if some power of it has 0 alone, and *split* if it is neither
nilpotent nor a tuple of turns.
"""

from arrowsizes.grid.columns import dot, idle_columns, lead_of, rank_of, swapped_rows

# No point has a size above 6, so powers tell all from this exponent on.
STEADY = 6


def idle_maps(sizes):
    """The idle endomorphism."""
    return tuple([idle_columns(size) for size in sizes])


def _product(prime, one, other):
    columns = swapped_rows(other, len(other))
    return tuple([tuple([dot(prime, row, column) for column in columns]) for row in one])


def product_maps(prime, one, other):
    """The first endomorphism behind the second one."""
    return tuple([_product(prime, left, right) for left, right in zip(one, other)])


def power_maps(prime, maps, many):
    """The power, with an exponent from 1 on."""
    found, digits = maps, f"{many:b}"
    for digit in digits[1:]:
        found = product_maps(prime, found, found)
        if digit == "1":
            found = product_maps(prime, found, maps)
    return found


def sum_maps(prime, one, other, factor):
    """The first endomorphism and a multiple of the second one, added."""
    found = []
    for left, right in zip(one, other):
        lines = []
        for row, added in zip(left, right):
            lines.append(tuple([(residue + factor * more) % prime for residue, more in zip(row, added)]))
        found.append(tuple(lines))
    return tuple(found)


def combined_maps(prime, factors, lot):
    """The sum of the multiples of a list of endomorphisms, not empty."""
    found = sum_maps(prime, lot[0], lot[0], factors[0] - 1)
    for factor, maps in list(zip(factors, lot))[1:]:
        found = sum_maps(prime, found, maps, factor)
    return found


def _vanishes(rows):
    return all([lead_of(row) is None for row in rows])


def is_zero(maps):
    """Whether all entries are 0."""
    return all([_vanishes(rows) for rows in maps])


def steady_power(prime, maps):
    """A power behind which kernels and images stay as they are."""
    return power_maps(prime, maps, STEADY)


def is_nilpotent(prime, maps):
    """Whether some power has 0 alone."""
    for rows in maps:
        if not is_zero(steady_power(prime, (rows,))):
            return False
    return True


def are_turns(prime, maps):
    """Whether all tables can be undone."""
    for rows in maps:
        if rank_of(prime, rows) < len(rows):
            return False
    return True
