"""What stands on a desk at one time: a board. It never changes; each change of a desk makes a new one."""

from arrowsizes.base.numbers import is_integer, is_name
from arrowsizes.fill.fillings import hom_number
from arrowsizes.split.splits import are_alike, is_firm, is_unsplittable

_ALIKE = "alike"
_HOM = "hom"
_UNSPLITTABLE = "unsplittable"
# By the first words of pledges, how many names follow.
_NAMES = {"alike": 2, "hom": 2, "unsplittable": 1, "firm": 1}


def is_any_pledge(value):
    """Whether the value is a pledge."""
    if not isinstance(value, tuple) or not value or not isinstance(value[0], str) or value[0] not in _NAMES:
        return False
    many = _NAMES[value[0]]
    names, rest = value[1:many + 1], value[many + 1:]
    if len(names) < many or not all([is_name(name) for name in names]):
        return False
    if value[0] == _HOM:
        return len(rest) == 1 and is_integer(rest[0])
    return len(rest) == 0


def _is_kept(entries, pledge):
    """Whether a pledge holds for the entries of a board."""
    word, names = pledge[0], pledge[1:_NAMES[pledge[0]] + 1]
    if not all([name in entries for name in names]):
        return False
    fillings = [entries[name][0] for name in names]
    if word == _ALIKE:
        return are_alike(fillings[0], fillings[1])
    if word == _HOM:
        return hom_number(fillings[0], fillings[1]) == pledge[3]
    if word == _UNSPLITTABLE:
        return is_unsplittable(fillings[0])
    return is_firm(fillings[0])


def _line_of(name, entry):
    """The line of a filling."""
    filling, many = entry
    sizes = " ".join([str(size) for size in filling.sizes])
    return f"{name}: {sizes} in {many} parts"


class Board:
    """Entries by ascending names, and pledges. It never changes. An entry is a filling and its number of parts."""

    def __init__(self, entries, pledged):
        self.held = {name: entries[name] for name in sorted(list(entries))}
        self.pledged = pledged
        self.shown = tuple([_line_of(name, entry) for name, entry in self.held.items()])

    def with_entry(self, name, entry):
        """The board with an entry, which takes the place of one with the same name."""
        return Board({**self.held, name: entry}, self.pledged)

    def without_entry(self, name):
        """The board without an entry."""
        return Board({other: entry for other, entry in self.held.items() if other != name}, self.pledged)

    def with_names(self, names):
        """The board with other names, by a dict."""
        return Board({names[name]: entry for name, entry in self.held.items()}, self.pledged)

    def with_pledges(self, pledged):
        """The board with these pledges in the place of its own ones."""
        return Board(self.held, pledged)

    def broken_pledge(self):
        """The first pledge that does not hold, or None."""
        for pledge in self.pledged:
            if not _is_kept(self.held, pledge):
                return pledge
        return None


def news_between(old, new):
    """The pair of the lines of a board that another one does not have, and of those that it has instead."""
    gone = tuple([line for line in old.shown if line not in new.shown])
    return gone, tuple([line for line in new.shown if line not in old.shown])
