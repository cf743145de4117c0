"""Whether all endomorphisms of a filling are nilpotent or turns, and one that is neither if not.

A *lot* is a base of all endomorphisms, as a list of tuples of rows, of a filling with sizes that are
not all 0. An endomorphism belongs to the *radical* if its products with all others are nilpotent. It
is enough that its products with those of a lot are: outside of the radical some such product has a
trace other than 0 on a space between two that all endomorphisms keep, with none between them.
"""

from math import lcm

from arrowsizes.base.numbers import power_of
from arrowsizes.fill.homs import flat_row
from arrowsizes.grid.columns import kernel_columns, rank_of, swapped_rows
from arrowsizes.split.maps import STEADY, are_turns, combined_maps, idle_maps, is_nilpotent, is_zero
from arrowsizes.split.maps import power_maps, product_maps, sum_maps


def _free_powers(prime, maps):
    """The list of the powers, from the idle one on, as long as they are free."""
    power = idle_maps([len(rows) for rows in maps])
    found, flats = [], []
    while rank_of(prime, flats + [flat_row(power)]) > len(flats):
        found = found + [power]
        flats = flats + [flat_row(power)]
        power = product_maps(prime, power, maps)
    return found


def _fixed(prime, powers):
    """The base of the factors with which the sum of some powers is its own power by the prime.

    Powers commute, so the power of a sum is the sum of the powers. The first one is the idle
    endomorphism, so the first member of the base belongs to it alone.
    """
    columns = []
    for maps in powers:
        columns.append(flat_row(sum_maps(prime, power_maps(prime, maps, prime), maps, -1)))
    return kernel_columns(prime, swapped_rows(columns, len(columns[0])), len(columns))


def _less_eigenvalue(prime, maps):
    """The endomorphism less a multiple of the idle one, so that it is no tuple of turns any more."""
    idle = idle_maps([len(rows) for rows in maps])
    lower = maps
    while are_turns(prime, lower):
        lower = sum_maps(prime, lower, idle, -1)
    return lower


def simple_part(prime, maps):
    """The triple of a split sum of powers of an endomorphism, or None, and then of its degree and its simple part.

    The simple part is the sum of powers that differs by a nilpotent one, and whose own powers hold no
    nilpotent ones. These powers are a field if none of them splits; its degree is the triple's second
    member. A power by the prime, often enough, has no nilpotent part, and more of these lead back.
    """
    risen, reached, many = maps, 1, 0
    while reached < STEADY:
        risen, reached, many = power_maps(prime, risen, prime), reached * prime, many + 1
    powers = _free_powers(prime, risen)
    factors = _fixed(prime, powers)
    if len(factors) > 1:
        return _less_eigenvalue(prime, combined_maps(prime, factors[1], powers)), 0, None
    degree = len(powers)
    for _ in range(-many % degree):
        risen = power_maps(prime, risen, prime)
    return None, degree, risen


def _live_product(prime, lot, maps):
    """The first product of one of the lot with an endomorphism that is not nilpotent, or None: then it is radical."""
    for one in lot:
        found = product_maps(prime, one, maps)
        if not is_nilpotent(prime, found):
            return found
    return None


def _any_split(prime, lot):
    """A split endomorphism, of a lot for which there is one.

    Most endomorphisms are split then, or have powers whose sums are. All are gone through, in a
    sequence that changes all factors from the start on.
    """
    many = power_of(prime, len(lot))
    step = many * 618034 // 1000000
    if step % prime == 0:
        step = step + 1
    number = 0
    while True:
        number = (number + step) % many
        factors, rest = [], number
        for _ in lot:
            factors, rest = factors + [rest % prime], rest // prime
        split, _, _ = simple_part(prime, combined_maps(prime, factors, lot))
        if split is not None:
            return split


def _unlike_order(prime, lot, simple):
    """A live product of a difference of one and other and of other and one, of simple parts, or None."""
    for at, one in enumerate(simple):
        for other in simple[:at]:
            change = sum_maps(prime, product_maps(prime, one, other), product_maps(prime, other, one), -1)
            live = _live_product(prime, lot, change)
            if live is not None:
                return live
    return None


def split_or_degree(prime, lot):
    """The pair of a split endomorphism and 0, or, if there is none, of None and the field degree.

    If nothing splits, and the simple parts commute but for the radical, all endomorphisms are a
    field but for the radical: in two fields side by side, those whose powers are a field have
    equal traces in both, or lie in a lesser field of one, so they would not make all.
    """
    simple, low, degree = [], [], 1
    for maps in lot:
        split, own, part = simple_part(prime, maps)
        if split is not None:
            return split, 0
        degree = lcm(degree, own)
        simple = simple + ([part] if own > 1 else [])
        low = low + [sum_maps(prime, maps, part, -1)]
    for maps in low:
        split = None if is_zero(maps) else _live_product(prime, lot, maps)
        if split is not None:
            return split, 0
    live = _unlike_order(prime, lot, simple)
    if live is None:
        return None, degree
    if are_turns(prime, live):
        return _any_split(prime, lot), 0
    return live, 0
