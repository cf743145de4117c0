"""Which fillings are alike: models to compare with, extensions up to likeness, likenesses of a filling to itself.

All these functions check nothing.
"""

from arrowsizes.base.numbers import power_of
from arrowsizes.fill.fillings import Filling
from arrowsizes.fill.homs import hom_and_ext
from arrowsizes.joined.classes import Classes, joined_filling, orbits_of
from arrowsizes.joined.keepers import keeping_turns
from arrowsizes.split.splits import are_alike, part_likeness, split_pieces


def _homs(one, other):
    return hom_and_ext(one, other)[0]


class Model:
    """A filling with which others of its sizes are compared. What was found is kept: others come again and again."""

    def __init__(self, filling):
        self._filling = filling
        self._own = _homs(filling, filling)
        self._known = {tuple([table.rows for table in filling.tables]): True}

    def is_met_by(self, other):
        """Whether another filling of the same sizes is alike."""
        key = tuple([table.rows for table in other.tables])
        if key not in self._known:
            self._known[key] = self._is_like(other)
        return bool(self._known[key])

    def _is_like(self, other):
        """Whether another filling is alike: hom numbers can tell that it is not, and are told faster."""
        if _homs(self._filling, other) != self._own or _homs(other, self._filling) != self._own:
            return False
        return are_alike(self._filling, other)


def _sum_of(filling, parts):
    """The sum of the parts of a filling."""
    found = Filling.zero(filling.plan, filling.prime, (0,) * filling.plan.size)
    for part in parts:
        found = found.summed(part)
    return found


class Split:
    """A sum of parts of a filling, told by pairs (part, field degree), and turns that keep it."""

    def __init__(self, filling, pairs):
        self.parts = [part for part, _ in pairs]
        self.degrees = [degree for _, degree in pairs]
        self.filling = _sum_of(filling, self.parts)

    def keepers(self):
        """Turns that keep the sum; if all parts are firm, they make all such turns."""
        return keeping_turns(self.parts, self.degrees)

    def is_all_firm(self):
        """Whether all parts are firm."""
        return all([degree == 1 for degree in self.degrees])


def _lots_of(outer, inner):
    """The list of the pairs of an extension in each lot of classes to which turns lead, and of the lot's size."""
    rest, sub = outer.filling, inner.filling
    classes = Classes(rest, sub)
    moves = [classes.moved_by_rest(turned) for turned in outer.keepers()]
    moves = moves + [classes.moved_by_sub(turned) for turned in inner.keepers()]
    lots = orbits_of(classes.all_classes(), rest.prime, moves)
    return [(joined_filling(rest, sub, classes.maps_told(entries)), many) for entries, many in lots]


def _mark(filling, outer, inner):
    """Numbers that are equal for alike extensions."""
    rest, sub = outer.filling, inner.filling
    return _homs(filling, filling), _homs(filling, rest), _homs(sub, filling), _homs(rest, filling), _homs(filling, sub)


def _merged(lots, outer, inner):
    """The lots, with alike extensions in one."""
    by_marks = {}
    for filling, many in lots:
        known = by_marks.setdefault(_mark(filling, outer, inner), [])
        places = [at for at, (model, _, _) in enumerate(known) if model.is_met_by(filling)]
        if places:
            model, first, others = known[places[0]]
            known[places[0]] = (model, first, others + many)
        else:
            known.append((Model(filling), filling, many))
    return [(filling, many) for known in by_marks.values() for _, filling, many in known]


def _kinds_of(outer, inner):
    """The lots, with alike extensions in one.

    If no hom other than zeros leads from the sub to the rest, likenesses of extensions come of
    turns that keep the sub and the rest. So lots are kinds if these turns make all such ones.
    """
    lots = _lots_of(outer, inner)
    if _homs(inner.filling, outer.filling) == 0 and outer.is_all_firm() and inner.is_all_firm():
        return lots
    return _merged(lots, outer, inner)


def alike_extensions(rest, sub):
    """The list of the pairs of an extension of each kind, and of how many classes tell such ones.

    Parts of the rest that have the ext number 0 with the sub are parts of each extension, and so
    are parts of the sub with which the rest has the ext number 0. They are left out, and added again.
    """
    outer = [(part, degree, hom_and_ext(part, sub)[1]) for part, degree, _ in split_pieces(rest)]
    inner = [(part, degree, hom_and_ext(rest, part)[1]) for part, degree, _ in split_pieces(sub)]
    beside = _sum_of(rest, [part for part, _, ext in inner + outer if ext == 0])
    moved = [Split(rest, [(part, degree) for part, degree, ext in lot if ext > 0]) for lot in (outer, inner)]
    return [(filling.summed(beside), many) for filling, many in _kinds_of(moved[0], moved[1])]


def likenesses_of(filling):
    """The number of the likenesses of a filling to itself.

    Of each kind of parts with a field degree r, the one that comes as the j-th takes the share
    1 less p ** (-j * r) of all endomorphisms.
    """
    found, kinds = power_of(filling.prime, _homs(filling, filling)), []
    for part, degree, _ in split_pieces(filling):
        many = 1 + len([kind for kind in kinds if part_likeness(kind, part) is not None])
        kinds.append(part)
        power = power_of(filling.prime, many * degree)
        found = found // power * (power - 1)
    return found
