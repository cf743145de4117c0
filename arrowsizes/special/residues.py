"""Polynomials modulo a prime, as tuples of residues, the constant one first; the last one is 1.

All these functions check nothing.
"""

from arrowsizes.base.numbers import all_choices


def product_modulo(prime, one, other):
    """The product."""
    found = [0] * (len(one) + len(other) - 1)
    for at, left in enumerate(one):
        for place, right in enumerate(other):
            found[at + place] += left * right
    return tuple([number % prime for number in found])


def power_modulo(prime, row, many):
    """The product of so many factors that are all the row."""
    found = (1,)
    for _ in range(many):
        found = product_modulo(prime, found, row)
    return found


def _does_divide(prime, part, row):
    """Whether a polynomial is another one, multiplied by a third one."""
    rest = list(row)
    while len(rest) >= len(part):
        factor, begin = rest[-1], len(rest) - len(part)
        for at, residue in enumerate(part):
            rest[begin + at] = (rest[begin + at] - factor * residue) % prime
        rest.pop()
    return not any([residue > 0 for residue in rest])


def with_degree(prime, degree):
    """The ascending list of all polynomials of a degree."""
    return [row + (1,) for row in all_choices([list(range(prime))] * degree)]


def is_simple(prime, row):
    """Whether a polynomial of a degree above 0 is no product of two of lesser degrees."""
    for degree in range(1, (len(row) - 1) // 2 + 1):
        for part in with_degree(prime, degree):
            if _does_divide(prime, part, row):
                return False
    return True
