"""Plans: points and arrows between them."""

from arrowsizes.base.numbers import are_counts, are_integers, check_count, dot_row, is_count, is_zero_row
from arrowsizes.base.numbers import unit_row
from arrowsizes.chart.minors import is_nowhere_negative, is_positive
from arrowsizes.errors import InvalidPlan, InvalidPoint, InvalidSizes, InvalidWeight

MOST_POINTS = 6
MOST_ARROWS = 9
MOST_SIZE = 6
_FINITE = "finite"
_TAME = "tame"
_WILD = "wild"


def _is_arrow(size, value):
    """Whether the value is a pair of unlike points."""
    return are_counts(value, 0, size - 1) and len(value) == 2 and value[0] != value[1]


def _are_arrows(size, value):
    if not isinstance(value, tuple) or len(value) > MOST_ARROWS:
        return False
    return all([_is_arrow(size, arrow) for arrow in value])


class Plan:
    """A number of points, and a tuple of arrows between them. It never changes."""

    def __init__(self, size, arrows):
        check_count(size, 1, MOST_POINTS)
        if not _are_arrows(size, arrows):
            raise InvalidPlan("no tuple of at most nine pairs of unlike points")
        self._size = size
        self._arrows = arrows

    @classmethod
    def line(cls, size):
        """The plan with an arrow from each point to the next one."""
        check_count(size, 1, MOST_POINTS)
        return cls(size, tuple([(at, at + 1) for at in range(size - 1)]))

    @classmethod
    def star(cls, arms):
        """The plan with an arrow to the point 0 from each other one."""
        check_count(arms, 1, MOST_POINTS - 1)
        return cls(arms + 1, tuple([(arm, 0) for arm in range(1, arms + 1)]))

    @classmethod
    def twins(cls, many):
        """The plan with two points and so many arrows from the first one to the second one."""
        check_count(many, 0, MOST_ARROWS)
        return cls(2, ((0, 1),) * many)

    @property
    def size(self):
        """The number of the points."""
        return self._size

    @property
    def arrows(self):
        """The tuple of the arrows."""
        return self._arrows

    @property
    def has_ring(self):
        """Whether there is a ring."""
        return _has_ring(self._size, self._arrows)

    @property
    def match_table(self):
        """The tuple of the rows of the match table."""
        return _match_table(self._size, self._arrows)

    def form(self, one, other):
        """The form of two rows of integers."""
        self._check_row(one)
        self._check_row(other)
        return dot_row(one, other) - sum([one[start] * other[goal] for start, goal in self._arrows])

    def match(self, one, other):
        """The match of two rows of integers."""
        return self.form(one, other) + self.form(other, one)

    def norm(self, row):
        """The norm of a row of integers."""
        return self.form(row, row)

    def reflected(self, row, point):
        """A row of integers, reflected at a point."""
        self._check_row(row)
        check_point(self, point)
        return _row_plus(row, point, -self.match(row, unit_row(self._size, point)))

    def turned_at(self, point):
        """The plan with all arrows at a point turned round."""
        check_point(self, point)
        return Plan(self._size, tuple([arrow[::-1] if point in arrow else arrow for arrow in self._arrows]))

    def opposite(self):
        """The plan with all arrows turned round."""
        return Plan(self._size, tuple([arrow[::-1] for arrow in self._arrows]))

    def ends_at(self, point):
        """The ascending tuple of the indices of the arrows that end at a point."""
        check_point(self, point)
        return tuple([at for at, arrow in enumerate(self._arrows) if arrow[1] == point])

    def starts_at(self, point):
        """The ascending tuple of the indices of the arrows that start at a point."""
        check_point(self, point)
        return tuple([at for at, arrow in enumerate(self._arrows) if arrow[0] == point])

    def sinks(self):
        """The ascending tuple of the points at which no arrow starts."""
        return _points_without(self._size, [arrow[0] for arrow in self._arrows])

    def sources(self):
        """The ascending tuple of the points at which no arrow ends."""
        return _points_without(self._size, [arrow[1] for arrow in self._arrows])

    def pieces(self):
        """The tuple of all lots of points that hang together, by their least points."""
        return _pieces(self._size, self._arrows)

    def piece_plan(self, points):
        """The plan of some points, numbered in sequence, and of the arrows between them."""
        if not self._are_points(points):
            raise InvalidPoint("no ascending tuple of points")
        inner = [arrow for arrow in self._arrows if arrow[0] in points and arrow[1] in points]
        return Plan(len(points), tuple([(points.index(start), points.index(goal)) for start, goal in inner]))

    def _are_points(self, value):
        if not are_counts(value, 0, self._size - 1) or not value:
            return False
        return all([value[at] < value[at + 1] for at in range(len(value) - 1)])

    def _check_row(self, value):
        if not is_integer_row(self, value):
            raise InvalidSizes("no tuple of an integer for each point")

    def __eq__(self, other):
        return isinstance(other, Plan) and self._size == other._size and self._arrows == other._arrows

    def __str__(self):
        told = " ".join([f"{start}-{goal}" for start, goal in self._arrows])
        arrows = f"arrows {told}" if told else "no arrows"
        return f"plan of {self._size} points, {arrows}"


def _row_plus(row, point, number):
    """The row with so much more at a point."""
    return row[:point] + (row[point] + number,) + row[point + 1:]


def _points_without(size, points):
    return tuple([point for point in range(size) if point not in points])


def _has_ring(size, arrows):
    """Whether points are left if points at which no arrow starts are left out, again and again."""
    left = list(arrows)
    for _ in range(size):
        starts = [arrow[0] for arrow in left]
        left = [arrow for arrow in left if arrow[1] in starts]
    return len(left) > 0


def _match_table(size, arrows):
    """Twice the idle table, less the number of the arrows between each two points."""
    joined = [(start, goal) for start, goal in arrows] + [(goal, start) for start, goal in arrows]
    rows = []
    for point in range(size):
        rows.append(tuple([2 if point == other else -joined.count((point, other)) for other in range(size)]))
    return tuple(rows)


def _pieces(size, arrows):
    """The pieces: each arrow gives its points the lesser one of their numbers, until no number changes."""
    least = list(range(size))
    for _ in range(size):
        for start, goal in arrows:
            least[start] = least[goal] = min(least[start], least[goal])
    pieces = [tuple([point for point in range(size) if least[point] == first]) for first in range(size)]
    return tuple([piece for piece in pieces if piece])


def is_integer_row(plan, value):
    """Whether the value is a tuple of an integer for each point of a plan."""
    return are_integers(value) and len(value) == plan.size


def check_plan(value):
    """Raise InvalidPlan unless the value is a plan."""
    if not isinstance(value, Plan):
        raise InvalidPlan("no plan")


def is_sizes(plan, value):
    """Whether the value is sizes of the plan."""
    check_plan(plan)
    return are_counts(value, 0, MOST_SIZE) and len(value) == plan.size


def check_sizes(plan, value):
    """Raise InvalidPlan unless the first value is a plan, and InvalidSizes unless the second one is sizes of it."""
    if not is_sizes(plan, value):
        raise InvalidSizes("no sizes of the plan")


def is_point(plan, value):
    """Whether the value is a point of the plan."""
    return is_count(value, 0, plan.size - 1)


def check_weight(plan, value):
    """Raise InvalidWeight unless the value is a tuple of an integer for each point of a plan."""
    if not is_integer_row(plan, value):
        raise InvalidWeight("no tuple of an integer for each point")


def check_point(plan, value):
    """Raise InvalidPoint unless the value is a point of the plan."""
    if not is_point(plan, value):
        raise InvalidPoint("no point of the plan")


def are_joined(plan, sizes):
    """Whether the points with a size above 0 hang together by arrows between them alone."""
    check_sizes(plan, sizes)
    points = tuple([point for point, size in enumerate(sizes) if size > 0])
    return len(points) > 0 and len(plan.piece_plan(points).pieces()) == 1


def sort_of(plan):
    """The text "finite", "tame" or "wild"."""
    check_plan(plan)
    rows = plan.match_table
    if is_positive(rows):
        return _FINITE
    return _TAME if is_nowhere_negative(rows) else _WILD


def _falling_points(plan, row):
    """The points whose unit rows have a match below 0 with the row: more there lets the norm fall or stay."""
    units = [unit_row(plan.size, point) for point in range(plan.size)]
    return [point for point, unit in enumerate(units) if plan.match(row, unit) < 0]


def null_row(plan):
    """The null row, or None unless the plan hangs together and is tame."""
    if sort_of(plan) != _TAME or len(plan.pieces()) != 1:
        return None
    # A row below the null row has a match below 0 only where it is less, so this stops at the null row.
    row = (1,) * plan.size
    points = _falling_points(plan, row)
    while points:
        row = _row_plus(row, points[0], 1)
        points = _falling_points(plan, row)
    return row


def _low_row(plan):
    """A row with a norm below 0, of a wild plan that hangs together.

    From ones on the norm does not rise, and there is always a point at which more can be
    put. At 0 twice the row and one more at such a point have a norm below 0.
    """
    row = (1,) * plan.size
    while plan.norm(row) > 0:
        row = _row_plus(row, _falling_points(plan, row)[0], 1)
    if plan.norm(row) == 0:
        twice = tuple([2 * size for size in row])
        row = _row_plus(twice, _falling_points(plan, row)[0], 1)
    return row


def bad_row(plan):
    """Any row of sizes with a norm of at most 0, below 0 for a wild plan; None for a finite one."""
    kind = sort_of(plan)
    for piece in plan.pieces():
        part = plan.piece_plan(piece)
        if kind != _FINITE and sort_of(part) == kind:
            inner = null_row(part) if kind == _TAME else _low_row(part)
            return tuple([inner[piece.index(at)] if at in piece else 0 for at in range(plan.size)])
    return None


def is_bad_row(plan, value):
    """Whether the value is such a row."""
    if not is_sizes(plan, value) or is_zero_row(value):
        return False
    return plan.norm(value) < (0 if sort_of(plan) == _WILD else 1)
