"""Columns of residues, and the bases of the spaces that they make.

Nothing here bounds how many or how long the columns are.
"""

from arrowsizes.base.numbers import all_choices, unit_row


def idle_columns(size):
    """The columns with a single 1, one for each index."""
    return tuple([unit_row(size, place) for place in range(size)])


def swapped_rows(rows, width):
    """The columns of rows of this width, as rows."""
    return tuple([tuple([row[at] for row in rows]) for at in range(width)])


def dot(prime, one, other):
    """The sum of the products of the entries at equal indices."""
    return sum([left * right for left, right in zip(one, other)]) % prime


def lead_of(column):
    """The index of the first entry other than 0, or None if there is none."""
    for at, residue in enumerate(column):
        if residue:
            return at
    return None


def _undone_residue(prime, residue):
    """The residue whose product with this one is 1."""
    found = 1
    while found * residue % prime != 1:
        found += 1
    return found


def _with_lead_one(prime, column, lead):
    factor = _undone_residue(prime, column[lead])
    return tuple([factor * residue % prime for residue in column])


def _less_multiple(prime, column, base_column, lead):
    """The column less that multiple of another one that leaves 0 at the lead of the other one."""
    factor = column[lead]
    if factor == 0:
        return column
    return tuple([(residue - factor * other) % prime for residue, other in zip(column, base_column)])


def cleared(prime, column, leads):
    """The column less multiples of base columns, with 0 at all leads; `leads` has the base columns by leads."""
    rest = column
    for lead, base_column in leads.items():
        rest = _less_multiple(prime, rest, base_column, lead)
    return rest


def _leads_of(prime, columns):
    """A dict from leads to columns that make the same space, in which each one has 0 at the leads of earlier ones."""
    found = {}
    for column in columns:
        rest = cleared(prime, column, found)
        lead = lead_of(rest)
        if lead is not None:
            found[lead] = _with_lead_one(prime, rest, lead)
    return found


def rank_of(prime, columns):
    """The free number of the space that the columns make."""
    return len(_leads_of(prime, columns))


def base_leads(prime, columns):
    """The dict from the leads to the columns of the base of the space that the columns make, ascending."""
    rough = _leads_of(prime, columns)
    found = {}
    for lead in sorted(list(rough), reverse=True):
        found[lead] = cleared(prime, rough[lead], found)
    return {lead: found[lead] for lead in sorted(list(found))}


def base_columns(prime, columns):
    """The base of the space that the columns make."""
    return tuple(list(base_leads(prime, columns).values()))


def leads_of_base(columns):
    """The dict from the leads to the columns of a base."""
    return {lead_of(column): column for column in columns}


def is_within(prime, columns, leads):
    """Whether all columns lie in the space whose base the leads tell."""
    for column in columns:
        if lead_of(cleared(prime, column, leads)) is not None:
            return False
    return True


def kernel_columns(prime, rows, width):
    """The base of the columns whose products with all rows of this width are 0."""
    leads = base_leads(prime, rows)
    found = []
    for free in range(width):
        if free not in leads:
            bound = {lead: -row[free] % prime for lead, row in leads.items()}
            bound[free] = 1
            found.append(tuple([bound.get(at, 0) for at in range(width)]))
    return base_columns(prime, found)


def solution(prime, rows, width, column):
    """Any column whose products with the rows of this width are the entries of the column told, or None."""
    leads = base_leads(prime, [row + (residue,) for row, residue in zip(rows, column)])
    if width in leads:
        return None
    return tuple([leads[at][width] if at in leads else 0 for at in range(width)])


def all_columns(prime, height):
    """The ascending list of all columns of a height."""
    return all_choices([list(range(prime))] * height)


def turn_rows(prime, size):
    """The ascending list of the rows of all turns of a size."""
    columns = all_columns(prime, size)
    found = [()]
    for _ in range(size):
        found = [rows for shorter in found for rows in _longer_rows(prime, shorter, columns)]
    return found


def _longer_rows(prime, rows, columns):
    """The list of the rows with one more that is no sum of multiples of them."""
    leads = base_leads(prime, rows)
    return [rows + (column,) for column in columns if lead_of(cleared(prime, column, leads)) is not None]


def _choices(things, many):
    """The list of all ways to choose so many of a tuple of things, in their sequence."""
    if many == 0:
        return [()]
    found = []
    for at, thing in enumerate(things):
        found = found + [(thing,) + rest for rest in _choices(things[at + 1:], many - 1)]
    return found


def _columns_with_lead(prime, height, lead, leads):
    """The list of the columns that can have this lead in a base with these leads."""
    options = []
    for at in range(height):
        if at == lead:
            options.append([1])
        elif at < lead or at in leads:
            options.append([0])
        else:
            options.append(list(range(prime)))
    return all_choices(options)


def all_bases(prime, height, number):
    """The ascending list of the bases of all spaces with a free number."""
    found = []
    for leads in _choices(tuple(range(height)), number):
        found = found + all_choices([_columns_with_lead(prime, height, lead, leads) for lead in leads])
    return sorted(found)
