"""Series of quotients, one for each row up to a bound."""

from arrowsizes.base.numbers import greatest_divisor, is_below, is_integer, is_row, moebius
from arrowsizes.base.numbers import row_count, row_less, row_over, rows_to
from arrowsizes.errors import InvalidOperation, InvalidSizes
from arrowsizes.poly.polys import Poly, Quotient

MOST_TERMS = 60


def _is_row_to(bound, value):
    """Whether the value is one of the rows from zeros to the bound."""
    if not is_row(value) or len(value) != len(bound):
        return False
    return is_below(value, bound)


def _is_entry(value):
    return isinstance(value, (Quotient, Poly)) or is_integer(value)


def _are_entries(bound, value):
    """Whether the value is a dict from rows up to the bound to what can be an entry."""
    if not isinstance(value, dict):
        return False
    return all([_is_row_to(bound, row) and _is_entry(entry) for row, entry in value.items()])


def _as_quotient(entry):
    return entry if isinstance(entry, Quotient) else Quotient(entry)


def _is_zero(quotient):
    return quotient.top.degree < 0


class Series:
    """For each row up to a bound a quotient. It never changes."""

    def __init__(self, bound, entries):
        if not is_row(bound) or row_count(bound) > MOST_TERMS:
            raise InvalidSizes("no row of sizes with at most 60 rows below it")
        if not _are_entries(bound, entries):
            raise InvalidOperation("no dict from some of the rows to quotients, polynomials and integers")
        self._bound = bound
        self._rows = tuple(rows_to(bound))
        quotients = {row: _as_quotient(entries[row]) for row in self._rows if row in entries}
        self._entries = {row: entry for row, entry in quotients.items() if not _is_zero(entry)}

    @property
    def bound(self):
        """The greatest row."""
        return self._bound

    @property
    def entries(self):
        """The dict of the entries other than 0, ascending by rows."""
        return {row: self._entries[row] for row in self._entries}

    def at(self, row):
        """The entry at a row."""
        if not _is_row_to(self._bound, row):
            raise InvalidSizes("no row up to the bound")
        return self._entries.get(row, Quotient(0))

    def plus(self, other):
        """The series of the sums of both entries."""
        self._check_mate(other)
        return Series(self._bound, {row: self.at(row).plus(other.at(row)) for row in self._rows})

    def times(self, other):
        """The product with a series of the same bound."""
        self._check_mate(other)
        return Series(self._bound, {row: _product_at(row, self._entries, other._entries) for row in self._rows})

    def exponential(self):
        """The exponential of a series with 0 at the row of zeros."""
        zeros = self._rows[0]
        if zeros in self._entries:
            raise InvalidOperation("the entry at the row of zeros is not 0")
        moved = {row: _spread_sum(row, self._entries, False) for row in self._rows[1:]}
        found = {zeros: Quotient(1)}
        for row in self._rows[1:]:
            found[row] = _rate_sum(row, moved, found)
        return Series(self._bound, found)

    def logarithm(self):
        """The series whose exponential this one is, of a series with 1 at the row of zeros."""
        if self.at(self._rows[0]) != Quotient(1):
            raise InvalidOperation("the entry at the row of zeros is not 1")
        moved = {}
        for row in self._rows[1:]:
            moved[row] = self.at(row).minus(_rate_sum(row, moved, self._entries))
        return Series(self._bound, {row: _spread_sum(row, moved, True) for row in self._rows[1:]})

    def _check_mate(self, other):
        if not isinstance(other, Series) or self._bound != other.bound:
            raise InvalidOperation("no series with the same bound")

    def __eq__(self, other):
        return isinstance(other, Series) and self._bound == other._bound and self._entries == other._entries


def _product_at(row, one, other):
    """The entry of the product of two dicts of entries at a row."""
    found = Quotient(0)
    for part, entry in one.items():
        rest = row_less(row, part)
        if rest in other:
            found = found.plus(entry.times(other[rest]))
    return found


def _rate_sum(row, moved, found):
    """The entry at a row of the sum of all h ** k / k!, told by its earlier entries and by those of h.

    Rates of change along one letter tell it: the entry at e, times e there, is the sum over all f
    of the entry of h at f, times f there, times the entry at e - f. This needs no powers of h. An
    entry that h does not have yet counts as 0.
    """
    place = [at for at, size in enumerate(row) if size > 0][0]
    total = Quotient(0)
    for part, entry in moved.items():
        rest = row_less(row, part)
        if part[place] > 0 and rest in found:
            total = total.plus(entry.times(found[rest]).times(part[place]))
    return total.over(row[place])


def _spread_sum(row, entries, signed):
    """The sum of the entries at all rows of which this one is k times, with q ** k for q, over k.

    With sign numbers this takes the sum without them back.
    """
    total = Quotient(0)
    shared = greatest_divisor(row)
    for many in range(1, shared + 1):
        part = row_over(row, many)
        if shared % many == 0 and part in entries:
            sign = moebius(many) if signed else 1
            total = total.plus(entries[part].spread(many).times(Quotient(sign, many)))
    return total
