"""A desk: fillings with names, pledges about them, and changes that can be taken back."""

from arrowsizes.base.checks import check_prime
from arrowsizes.base.numbers import is_integer, is_name, row_plus
from arrowsizes.chart.plans import check_plan
from arrowsizes.errors import InvalidCount, InvalidOperation, InvalidPledge, NothingToUndo, Refused, TooMany
from arrowsizes.errors import UnknownName
from arrowsizes.fill.fillings import check_filling
from arrowsizes.split.splits import parts_of
from arrowsizes.use.boards import Board, is_any_pledge, news_between

MAX_FILLINGS = 6
MAX_PLEDGES = 10
MAX_SPLIT = 12


def is_pledge(value):
    """Whether the value is a pledge, whatever the desk."""
    return is_any_pledge(value)


def _check_steps(many, steps):
    """Raise an error unless so many steps can be made."""
    if not is_integer(many) or many < 0:
        raise InvalidCount(many)
    if many > len(steps):
        raise NothingToUndo(many)


def _are_new_names(entries, value):
    """Whether the value is a dict from just the names of the entries to names that are all unlike."""
    if not isinstance(value, dict) or len(value) != len(entries):
        return False
    names = list(value.values())
    if not all([name in value for name in entries]) or not all([is_name(name) for name in names]):
        return False
    return all([names.count(name) == 1 for name in names])


class Trial:
    """A block of a desk, behind which the desk is as it was when the block was entered."""

    def __init__(self, desk):
        self._desk = desk
        self._kept_board = None
        self._kept_past = ()
        self._kept_later = ()

    def __enter__(self):
        desk = self._desk
        self._kept_board = desk._board
        self._kept_past = desk._past
        self._kept_later = desk._later
        return desk

    def __exit__(self, kind, value, trace):
        desk = self._desk
        desk._board = self._kept_board
        desk._past = self._kept_past
        desk._later = self._kept_later


class Desk:
    """Fillings of one plan over one prime with different names, and pledges. Its changes can be taken back."""

    def __init__(self, plan, prime):
        check_plan(plan)
        check_prime(prime)
        self._plan = plan
        self._prime = prime
        self._board = Board({}, ())
        self._past = ()
        self._later = ()

    def put(self, name, filling):
        """A change: with a further filling."""
        self._check_new(name)
        check_filling(filling)
        if filling.plan != self._plan or filling.prime != self._prime:
            raise InvalidOperation("the filling has another plan or prime")
        self._check_room(filling.sizes)
        return self._changed(self._board.with_entry(name, (filling, len(parts_of(filling)))))

    def pair(self, name, one, other):
        """A change: with the sum of two fillings as a further one."""
        self._check_new(name)
        left, right = self._entry(one), self._entry(other)
        self._check_room(row_plus(left[0].sizes, right[0].sizes))
        # The parts of a sum are those of both.
        return self._changed(self._board.with_entry(name, (left[0].summed(right[0]), left[1] + right[1])))

    def turn(self, name, turns):
        """A change: a filling, changed by turns."""
        filling, many = self._entry(name)
        return self._changed(self._board.with_entry(name, (filling.changed(turns), many)))

    def drop(self, name):
        """A change: without a filling."""
        self._entry(name)
        return self._changed(self._board.without_entry(name))

    def rename(self, names):
        """A change: with other names."""
        if not _are_new_names(self._board.held, names):
            raise InvalidOperation("no dict from just the names to different names")
        return self._changed(self._board.with_names(names))

    def demand(self, pledge):
        """A change: with a further pledge."""
        if not is_any_pledge(pledge):
            raise InvalidPledge("no pledge")
        pledged = self._board.pledged
        if pledge in pledged:
            raise InvalidOperation("the pledge is there already")
        if len(pledged) >= MAX_PLEDGES:
            raise TooMany(MAX_PLEDGES)
        return self._changed(self._board.with_pledges(pledged + (pledge,)))

    def waive(self, pledge):
        """A change: without a pledge."""
        pledged = self._board.pledged
        if not is_any_pledge(pledge) or pledge not in pledged:
            raise InvalidOperation("the pledge is not there")
        return self._changed(self._board.with_pledges(tuple([other for other in pledged if other != pledge])))

    def undo(self, *, many=1):
        """Take back so many changes."""
        _check_steps(many, self._past)
        old = self._board
        for _ in range(many):
            self._later = self._later + (self._board,)
            self._board = self._past[-1]
            self._past = self._past[:-1]
        return news_between(old, self._board)

    def redo(self, *, many=1):
        """Do so many changes again that were taken back."""
        _check_steps(many, self._later)
        old = self._board
        for _ in range(many):
            self._past = self._past + (self._board,)
            self._board = self._later[-1]
            self._later = self._later[:-1]
        return news_between(old, self._board)

    def trial(self):
        """A block that gives the desk, behind which it is as it was when the block was entered."""
        return Trial(self)

    def during(self, call):
        """What a call of the desk returns in such a block."""
        with self.trial() as same:
            return call(same)

    def twin(self):
        """An independent copy with all changes that can be taken back and done again."""
        other = Desk(self._plan, self._prime)
        other._board = self._board
        other._past = self._past
        other._later = self._later
        return other

    def filling_named(self, name):
        """The filling with a name."""
        return self._entry(name)[0]

    @property
    def names(self):
        """The ascending tuple of all names."""
        return tuple(list(self._board.held))

    @property
    def lines(self):
        """The tuple of the lines of all fillings, by ascending names."""
        return self._board.shown

    @property
    def pledges(self):
        """The tuple of all pledges, in the order of demands."""
        return self._board.pledged

    @property
    def changes(self):
        """The number of the changes that can be taken back."""
        return len(self._past)

    def _check_new(self, name):
        if not is_name(name) or name in self._board.held:
            raise InvalidOperation("no name, or one that is there already")

    def _entry(self, name):
        """The pair of a filling and its number of parts, by the name of the filling."""
        if not is_name(name) or name not in self._board.held:
            raise UnknownName(name)
        return self._board.held[name]

    def _check_room(self, sizes):
        """Raise TooMany unless a further filling of these sizes has room."""
        if sum(sizes) > MAX_SPLIT:
            raise TooMany(MAX_SPLIT)
        if len(self._board.held) >= MAX_FILLINGS:
            raise TooMany(MAX_FILLINGS)

    def _changed(self, board):
        """The news of a change to a board. Changes that were taken back cannot be done again then."""
        broken = board.broken_pledge()
        if broken is not None:
            raise Refused(broken)
        old = self._board
        self._past = self._past + (old,)
        self._later = ()
        self._board = board
        return news_between(old, board)

    def __contains__(self, value):
        if isinstance(value, str):
            return value in self._board.shown
        return is_any_pledge(value) and value in self._board.pledged

    def __len__(self):
        return len(self._board.pledged)

    def __iter__(self):
        return iter(self._board.shown)

    def __eq__(self, other):
        return (isinstance(other, Desk) and self._plan == other._plan and self._prime == other._prime
                and self._board.held == other._board.held and self._board.pledged == other._board.pledged)

    def __str__(self):
        return f"desk of {len(self._board.held)} fillings, {len(self._board.pledged)} pledges"
