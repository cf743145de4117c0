"""Classes of extensions of one filling, the *rest*, by another one, the *sub*.

Rows of tables, one for each arrow, are told here by the rows of these tables. Rows z of one class
differ by a member of the *lost* space: by one of the form f_j * x - y * f_i. All these functions
check nothing.
"""

from arrowsizes.base.numbers import all_choices, row_plus, unit_row
from arrowsizes.fill.fillings import filling_of_rows
from arrowsizes.fill.homs import equations, flat_row, maps_of
from arrowsizes.grid.columns import base_leads, cleared, dot, swapped_rows


def _product(prime, one, other, width):
    """The rows of the product of two tables; the other one has this width."""
    columns = swapped_rows(other, width)
    return tuple([tuple([dot(prime, row, column) for column in columns]) for row in one])


class Classes:
    """The classes of all extensions. A class is told by its entries at the places where no member of a base leads."""

    def __init__(self, rest, sub):
        rows, many = equations(rest, sub)
        self._prime = rest.prime
        self._arrows = rest.plan.arrows
        self._sides = [(sub.sizes[goal], rest.sizes[start]) for start, goal in self._arrows]
        self._many = len(rows)
        self._leads = base_leads(rest.prime, swapped_rows(rows, many))
        self._free = [at for at in range(len(rows)) if at not in self._leads]

    def all_classes(self):
        """The ascending list of all classes."""
        return all_choices([list(range(self._prime))] * len(self._free))

    def maps_told(self, entries):
        """The rows of tables of a class, with 0 at all other places."""
        told = {at: entry for at, entry in zip(self._free, entries)}
        return maps_of(tuple([told.get(at, 0) for at in range(self._many)]), self._sides)

    def base(self):
        """The list of the rows of tables that tell 1 at one place and 0 at all others."""
        size = len(self._free)
        return [self.maps_told(unit_row(size, at)) for at in range(size)]

    def _class_of(self, maps):
        rest = cleared(self._prime, flat_row(maps), self._leads)
        return tuple([rest[at] for at in self._free])

    def moved_by_sub(self, turned):
        """The list of the classes of the base, behind an endomorphism of the sub that has these rows."""
        found = []
        for maps in self.base():
            moved = []
            for (_, goal), (_, width), rows in zip(self._arrows, self._sides, maps):
                moved.append(_product(self._prime, turned[goal], rows, width))
            found.append(self._class_of(tuple(moved)))
        return found

    def moved_by_rest(self, turned):
        """The list of the classes of the base, with an endomorphism of the rest ahead of them."""
        found = []
        for maps in self.base():
            moved = []
            for (start, _), (_, width), rows in zip(self._arrows, self._sides, maps):
                moved.append(_product(self._prime, rows, turned[start], width))
            found.append(self._class_of(tuple(moved)))
        return found


def joined_filling(rest, sub, maps):
    """The extension that a row of tables tells."""
    tables = []
    for (start, _), inner, between, outer in zip(rest.plan.arrows, sub.tables, maps, rest.tables):
        upper = [row + more for row, more in zip(inner.rows, between)]
        tables.append(tuple(upper + [(0,) * sub.sizes[start] + row for row in outer.rows]))
    return filling_of_rows(rest.plan, rest.prime, row_plus(sub.sizes, rest.sizes), tables)


def _images(prime, classes, columns):
    """The list of what a map does to all classes; `columns` has what it does to those of the base."""
    found = [(0,) * len(columns)]
    for column in columns:
        multiples = [tuple([factor * entry for entry in column]) for factor in range(prime)]
        found = [row_plus(one, other) for one in found for other in multiples]
    places = {row: at for at, row in enumerate(classes)}
    return [places[tuple([entry % prime for entry in row])] for row in found]


def _orbit_size(images, at, seen):
    """The number of the classes to which maps lead from the one at an index; they are seen then."""
    seen[at] = True
    todo, many = [at], 0
    while todo:
        now, many = todo.pop(), many + 1
        for image in images:
            other = image[now]
            if other not in seen:
                seen[other] = True
                todo.append(other)
    return many


def _unlike(moves):
    """The list of the maps, each one once, without the one that leads each class to itself."""
    found = []
    for columns in moves:
        idle = [unit_row(len(columns), at) for at in range(len(columns))]
        if columns != idle and columns not in found:
            found.append(columns)
    return found


def orbits_of(classes, prime, moves):
    """The list of the pairs (class, size) of a class in each lot to which maps lead, and of the lot's size."""
    images = [_images(prime, classes, columns) for columns in _unlike(moves)]
    seen, found = {}, []
    for at, entries in enumerate(classes):
        if at not in seen:
            found.append((entries, _orbit_size(images, at, seen)))
    return found
