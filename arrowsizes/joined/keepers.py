"""Turns that keep a sum of unsplittable fillings, enough to make all of them where all parts are firm.

All these functions check nothing. A *lot* is a list of endomorphisms, as tuples of rows.
"""

from arrowsizes.fill.homs import flat_row, hom_maps, maps_of
from arrowsizes.fixed.orbits import MAKERS
from arrowsizes.grid.columns import base_columns, idle_columns
from arrowsizes.split.maps import are_turns, combined_maps, idle_maps, is_nilpotent, product_maps, sum_maps


def _with_block(parts, place, maps):
    """The idle endomorphism of the sum of parts, with the rows of a hom at the block of a place (goal, start)."""
    goal, start = place
    found = []
    for point, rows in enumerate(maps):
        lines = [list(row) for row in idle_columns(sum([part.sizes[point] for part in parts]))]
        top = sum([part.sizes[point] for part in parts[:goal]])
        left = sum([part.sizes[point] for part in parts[:start]])
        for at, row in enumerate(rows):
            lines[top + at][left:left + len(row)] = row
        found.append(tuple([tuple(line) for line in lines]))
    return tuple(found)


def _free_lot(prime, sizes, lot):
    """Free endomorphisms of which those of the lot are sums of multiples."""
    sides = [(size, size) for size in sizes]
    return [maps_of(row, sides) for row in base_columns(prime, [flat_row(maps) for maps in lot])]


def _nilpotent_part(prime, maps):
    """An endomorphism of a firm filling, less that multiple of the idle one that leaves a nilpotent one."""
    idle, rest = idle_maps([len(rows) for rows in maps]), maps
    while not is_nilpotent(prime, rest):
        rest = sum_maps(prime, rest, idle, -1)
    return rest


def _own_turns(part):
    """Turns that make all turns that keep a firm filling.

    These are multiples of the idle one, and that and a nilpotent one. The idle one and a nilpotent
    one are products of the idle one and members of bases of the nilpotent ones, of all products of
    two of them, of three of them, and so on.
    """
    prime, sizes = part.prime, part.sizes
    idle = idle_maps(sizes)
    first = _free_lot(prime, sizes, [_nilpotent_part(prime, maps) for maps in hom_maps(part, part)])
    low, found = first, []
    while low:
        found = found + [sum_maps(prime, idle, maps, 1) for maps in low]
        low = _free_lot(prime, sizes, [product_maps(prime, one, other) for one in low for other in first])
    if prime in MAKERS:
        found.append(combined_maps(prime, [MAKERS[prime][0]], [idle]))
    return found


def _some_turns(part):
    """Some turns that keep an unsplittable filling."""
    prime, idle = part.prime, idle_maps(part.sizes)
    lot = hom_maps(part, part)
    return [maps if are_turns(prime, maps) else sum_maps(prime, idle, maps, 1) for maps in lot]


def keeping_turns(parts, degrees):
    """Turns that keep the sum of some unsplittable fillings with told field degrees.

    All turns that keep it come of those of the parts, and of the idle one and a hom between two parts.
    """
    found = []
    for at, part in enumerate(parts):
        own = _own_turns(part) if degrees[at] == 1 else _some_turns(part)
        found = found + [_with_block(parts, (at, at), maps) for maps in own]
        for place, other in enumerate(parts):
            if place != at:
                found = found + [_with_block(parts, (place, at), maps) for maps in hom_maps(part, other)]
    return found
