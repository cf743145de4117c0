"""Lots of things with rows of sizes, repeats among them: how many have a sum, from how many things have it.

The product of all 1 / (1 - X ** e), to the power of the number at e, has the logarithm in which
each such number stands at all multiples k * e, divided by k. No k is above 6 here, so sixty
times the logarithm, the *shares*, are integers.
"""

from arrowsizes.base.numbers import greatest_divisor, row_less, row_over, rows_to

SHARES = 60


def share_of(row, parts):
    """The share at a row: the sum of the parts at all rows of which it is k times, times 60 / k.

    A row that has no part counts as one with 0.
    """
    total = 0
    shared = greatest_divisor(row)
    for many in range(1, shared + 1):
        if shared % many == 0:
            total = total + SHARES // many * parts.get(row_over(row, many), 0)
    return total


def place_of(row):
    """The first index at which a row is above 0."""
    return [at for at, size in enumerate(row) if size > 0][0]


def rate_sum(row, shares, lots):
    """The sum of all products of a share at f, times f at the place of the row, and of the lots at the row less f.

    Rates of change along one letter tell the lots at a row by it: so often as the row has
    that letter, times 60. Rows that have no share yet are left out.
    """
    place = place_of(row)
    total = 0
    for part, share in shares.items():
        if share and part[place] > 0:
            total = total + share * part[place] * lots.get(row_less(row, part), 0)
    return total


def lots_of_shares(bound, shares):
    """The dict from all rows up to the bound to the numbers of lots that the shares tell."""
    rows = rows_to(bound)
    lots = {rows[0]: 1}
    for row in rows[1:]:
        lots[row] = rate_sum(row, shares, lots) // (SHARES * row[place_of(row)])
    return lots


def parts_of_lots(bound, lots):
    """The dict from all rows up to the bound other than 0 to the parts whose lots these are."""
    shares, parts = {}, {}
    for row in rows_to(bound)[1:]:
        share = SHARES * lots[row] - rate_sum(row, shares, lots) // row[place_of(row)]
        parts[row] = (share - share_of(row, parts)) // SHARES
        shares[row] = share
    return parts


def lots_of_parts(bound, parts):
    """The dict from all rows up to the bound to the numbers of lots of the parts."""
    return lots_of_shares(bound, {row: share_of(row, parts) for row in rows_to(bound)[1:]})
