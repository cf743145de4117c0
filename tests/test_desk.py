"""[19.1] to [19.3] and what stands there: a desk."""

import random
import unittest

from arrowsizes.chart.plans import Plan
from arrowsizes.errors import (
    InvalidCount, InvalidFilling, InvalidOperation, InvalidPlan, InvalidPledge, InvalidPrime, NothingToUndo, Refused, TooMany,
    UnknownName)
from arrowsizes.fill.fillings import Filling, hom_number
from arrowsizes.grid.tables import Table, idle_table, zero_table
from arrowsizes.line.bars import filling_of_bars
from arrowsizes.split.splits import are_alike, is_firm, is_unsplittable, parts_of
from arrowsizes.use import desk as module
from arrowsizes.use.desk import Desk, is_pledge
from tests.helpers import Case, NO_INTEGERS, NO_TUPLES, OTHERS, SIXTY, SIXTY_ONE
from tests.some_fillings import round_filling, some_filling, some_sizes, some_turns
from tests.test_fillings import NO_FILLINGS
from tests.test_plans import FULL, NO_PLANS, TWINS
from tests.test_tables import NO_PRIMES

LINE = Plan.line(2)
LONG = filling_of_bars(2, 2, (((0, 1), 1),))
HEAD, TAIL = Filling.single(LINE, 2, 0), Filling.single(LINE, 2, 1)
FLAT = HEAD.summed(TAIL)
NONE = Filling.zero(LINE, 2, (0, 0))
NO_NAMES = tuple([value for value in OTHERS if value not in ("a" * 4000,)]) + ("a" * 9, "a" * 4000, "A", "a1", "a b", "ab\n", 0, ("a",), ["a"], b"a")
NO_PLEDGES = NO_TUPLES + OTHERS + (
    ("alike",), ("alike", "a"), ("alike", "a", "b", "c"), ("alike", "a", "b", 1), ("alike", "a", "B"), ("alike", "a", None), ["alike", "a", "b"], ("hom", "a", "b"), ("hom", "a", "b", True), ("hom", "a", "b", False), ("hom", "a", "b", None),
    ("hom", "a", "b", "1"), ("hom", "a", "b", SIXTY_ONE), ("hom", "a", "b", 1, 1), ("hom", "a", 1), ("hom", "a", "", 1), ("hom", 1, "b", 1), ("unsplittable",), ("unsplittable", "a", "b"), ("unsplittable", ""), ("unsplittable", "a" * 9), ("firm",),
    ("firm", "a", 1), ("firm", 1), ("firm", ("a",)), ("Firm", "a"), ("", "a"), (None, "a"), (("firm",), "a"), ("ext", "a", "b", 1), ("firm", "a1"), (1, "a"), ("a", "firm"), (["firm"], "a"), ({}, "a"))
PLEDGES = (("alike", "a", "b"), ("alike", "abcdefgh", "abcdefgh"), ("hom", "a", "b", 0), ("hom", "a", "a", -SIXTY), ("hom", "x", "y", SIXTY), ("unsplittable", "z"), ("firm", "a"))


def new_desk():
    """A desk with three fillings."""
    desk = Desk(LINE, 2)
    desk.put("a", LONG)
    desk.put("b", TAIL)
    desk.pair("c", "a", "b")
    return desk


def state_of(desk):
    """All that can be seen of a desk."""
    fillings = [desk.filling_named(name) for name in desk.names]
    return desk.names, desk.lines, desk.pledges, desk.changes, [(filling.plan, filling.sizes, filling.tables) for filling in fillings], str(desk), len(desk), list(desk), steps_again(desk)


def steps_again(desk):
    """How many changes can be done again."""
    many = 0
    while True:
        try:
            desk.twin().redo(many=many + 1)
        except NothingToUndo:
            return many
        many += 1


class Pledges(Case):

    def test_judged(self):
        for value in PLEDGES:
            self.assertIs(is_pledge(value), True)
        for value in NO_PLEDGES:
            self.assertIs(is_pledge(value), False)

    def test_constants(self):
        self.assertEqual((module.MAX_FILLINGS, module.MAX_PLEDGES, module.MAX_SPLIT), (6, 10, 12))

    def test_holding(self):
        """A pledge is let just if it holds."""
        source, met = random.Random(1), {True: 0, False: 0}
        for _ in range(60):
            desk = Desk(TWINS, 2)
            one = some_filling(source, TWINS, 2, some_sizes(source, TWINS, 2, 4))
            other = source.choice((one.changed(some_turns(source, one)), some_filling(source, TWINS, 2, one.sizes), round_filling(2, (1, 1))))
            desk.put("one", one)
            desk.put("other", other)
            homs = hom_number(one, other)
            told = ((("alike", "one", "other"), one.sizes == other.sizes and are_alike(one, other)), (("alike", "other", "one"), one.sizes == other.sizes and are_alike(one, other)), (("hom", "one", "other", homs), True),
                    (("hom", "one", "other", homs + 1), False), (("hom", "one", "other", -1), False), (("unsplittable", "other"), is_unsplittable(other)), (("firm", "other"), is_firm(other)), (("firm", "one"), is_firm(one)),
                    (("alike", "one", "one"), True), (("hom", "other", "other", hom_number(other, other)), True))
            for pledge, holds in told:
                met[holds] += 1
                if holds:
                    self.assertEqual(desk.demand(pledge), ((), ()))
                    self.assertIs(pledge in desk, True)
                else:
                    self.refuses(Refused, desk.demand, pledge, reason=pledge)
                    self.assertIs(pledge in desk, False)
        self.assertGreater(min(met.values()), 150)

    def test_missing_names(self):
        desk = new_desk()
        for pledge in (("alike", "a", "z"), ("alike", "z", "a"), ("hom", "z", "a", 0), ("hom", "a", "z", 0), ("hom", "z", "z", 0), ("unsplittable", "z"), ("firm", "z"), ("alike", "z", "z")):
            self.refuses(Refused, desk.demand, pledge, reason=pledge)
        self.assertEqual((desk.changes, desk.pledges), (3, ()))

    def test_unsplittable_and_firm(self):
        desk = Desk(TWINS, 2)
        desk.put("round", round_filling(2, (1, 1)))
        desk.demand(("unsplittable", "round"))
        self.refuses(Refused, desk.demand, ("firm", "round"), reason=("firm", "round"))
        desk.put("none", Filling.zero(TWINS, 2, (0, 0)))
        self.refuses(Refused, desk.demand, ("unsplittable", "none"), reason=("unsplittable", "none"))

    def test_demand_errors(self):
        desk = new_desk()
        self.all_refused(InvalidPledge, desk.demand, NO_PLEDGES)
        desk.demand(("hom", "a", "b", 0))
        self.refuses(InvalidOperation, desk.demand, ("hom", "a", "b", 0))
        self.refuses(InvalidPledge, desk.demand, ("hom", "a", "b", False))
        self.assertEqual((desk.pledges, desk.changes), ((("hom", "a", "b", 0),), 4))

    def test_ten_pledges(self):
        desk = new_desk()
        pledges = [("hom", one, other, hom_number(desk.filling_named(one), desk.filling_named(other))) for one in "abc" for other in "abc"] + [("firm", "a")]
        for pledge in pledges:
            desk.demand(pledge)
        self.assertEqual((desk.pledges, len(desk)), (tuple(pledges), 10))
        self.refuses(TooMany, desk.demand, ("firm", "b"), limit=10)
        self.refuses(TooMany, desk.demand, ("firm", "z"), limit=10)
        self.refuses(InvalidOperation, desk.demand, ("firm", "a"))
        self.refuses(InvalidPledge, desk.demand, ("firm",))
        desk.waive(pledges[4])
        desk.demand(("firm", "b"))
        self.assertEqual(desk.pledges, tuple(pledges[:4] + pledges[5:] + [("firm", "b")]))

    def test_waive(self):
        desk = new_desk()
        desk.demand(("hom", "a", "b", 0))
        desk.demand(("firm", "a"))
        for value in NO_PLEDGES + (("firm", "b"), ("hom", "a", "b", 1), ("hom", "a", "b", False), ("unsplittable", "a")):
            self.refuses(InvalidOperation, desk.waive, value)
        self.assertEqual(desk.waive(("hom", "a", "b", 0)), ((), ()))
        self.assertEqual((desk.pledges, desk.changes), ((("firm", "a"),), 6))
        self.refuses(InvalidOperation, desk.waive, ("hom", "a", "b", 0))

    def test_first_broken_one(self):
        """The first pledge that would not hold, in the order of demands."""
        desk = new_desk()
        for pledge in (("firm", "a"), ("hom", "b", "c", 2), ("firm", "b"), ("alike", "b", "b")):
            desk.demand(pledge)
        self.refuses(Refused, desk.drop, "b", reason=("hom", "b", "c", 2))
        self.refuses(Refused, desk.drop, "a", reason=("firm", "a"))
        self.refuses(Refused, desk.rename, {"a": "a", "b": "c", "c": "b"}, reason=("hom", "b", "c", 2))
        self.refuses(Refused, desk.rename, {"a": "x", "b": "b", "c": "c"}, reason=("firm", "a"))
        desk.waive(("hom", "b", "c", 2))
        self.refuses(Refused, desk.drop, "b", reason=("firm", "b"))
        self.assertEqual(desk.drop("c"), (("c: 1 2 in 2 parts",), ()))


class Making(Case):

    def test_empty(self):
        desk = Desk(FULL, 7)
        self.assertEqual((desk.names, desk.lines, desk.pledges, desk.changes, len(desk), list(desk), str(desk)), ((), (), (), 0, 0, [], "desk of 0 fillings, 0 pledges"))
        self.all_refused(InvalidPlan, lambda value: Desk(value, 2), NO_PLANS)
        self.all_refused(InvalidPrime, lambda value: Desk(LINE, value), NO_PRIMES)
        self.refuses(InvalidPlan, Desk, None, 4)

    def test_properties(self):
        desk = new_desk()
        for name in ("names", "lines", "pledges", "changes"):
            with self.assertRaises(AttributeError):
                setattr(desk, name, ())
        for name in ("names", "lines", "pledges"):
            self.assertIs(type(getattr(desk, name)), tuple)
        self.same(desk.changes, 3)
        self.assertEqual(desk.filling_named("c"), LONG.summed(TAIL))

    def test_put(self):
        desk = Desk(LINE, 2)
        self.assertEqual(desk.put("zz", FLAT), ((), ("zz: 1 1 in 2 parts",)))
        self.assertEqual(desk.put("z", NONE), ((), ("z: 0 0 in 0 parts",)))
        self.assertEqual(desk.put("abcdefgh", LONG), ((), ("abcdefgh: 1 1 in 1 parts",)))
        self.assertEqual(desk.names, ("abcdefgh", "z", "zz"))
        self.assertEqual(desk.lines, ("abcdefgh: 1 1 in 1 parts", "z: 0 0 in 0 parts", "zz: 1 1 in 2 parts"))
        self.assertEqual(desk.lines, tuple(sorted(desk.lines)))
        self.assertEqual([desk.filling_named(name) for name in desk.names], [LONG, NONE, FLAT])

    def test_put_refused(self):
        desk = new_desk()
        before = state_of(desk)
        self.all_refused(InvalidOperation, lambda value: desk.put(value, LONG), NO_NAMES + ("a", "c"))
        self.all_refused(InvalidFilling, lambda value: desk.put("x", value), NO_FILLINGS)
        for filling in (Filling.zero(LINE, 3, (1, 1)), Filling.zero(TWINS, 2, (1, 1)), Filling.zero(LINE.opposite(), 2, (1, 1)), Filling.zero(Plan(2, ()), 2, (6, 6)), Filling.zero(Plan.line(3), 2, (6, 6, 6))):
            self.refuses(InvalidOperation, desk.put, "x", filling)
        self.refuses(InvalidOperation, desk.put, "a", None)
        self.refuses(InvalidFilling, desk.put, "x", None)
        self.assertEqual(state_of(desk), before)

    def test_bounds(self):
        three = Plan.line(3)
        desk = Desk(three, 2)
        self.refuses(TooMany, desk.put, "a", Filling.zero(three, 2, (6, 6, 1)), limit=12)
        for name in "abcdef":
            desk.put(name, Filling.zero(three, 2, (6, 6, 0)))
        self.assertEqual(desk.lines[5], "f: 6 6 0 in 12 parts")
        self.refuses(TooMany, desk.put, "g", Filling.zero(three, 2, (0, 0, 1)), limit=6)
        self.refuses(TooMany, desk.put, "g", Filling.zero(three, 2, (6, 6, 1)), limit=12)
        self.refuses(InvalidOperation, desk.put, "g", Filling.zero(three, 3, (6, 6, 1)))
        self.refuses(TooMany, desk.pair, "g", "a", "b", limit=12)
        desk.drop("c")
        desk.put("c", Filling.zero(three, 2, (0, 0, 1)))
        self.assertEqual(len(desk.names), 6)

    def test_pair(self):
        desk = new_desk()
        self.assertEqual(desk.lines[2], "c: 1 2 in 2 parts")
        self.assertEqual(desk.pair("d", "c", "c"), ((), ("d: 2 4 in 4 parts",)))
        self.assertEqual(desk.filling_named("d"), desk.filling_named("c").summed(desk.filling_named("c")))
        desk.pair("e", "d", "b")
        self.assertEqual(desk.lines[4], "e: 2 5 in 5 parts")
        self.assertEqual(len(parts_of(desk.filling_named("e"))), 5)

    def test_pair_refused(self):
        three = Plan.line(3)
        desk = Desk(three, 2)
        desk.put("a", Filling.zero(three, 2, (4, 0, 2)))
        desk.put("b", Filling.zero(three, 2, (3, 3, 0)))
        desk.put("c", Filling.zero(three, 2, (2, 5, 0)))
        before = state_of(desk)
        self.all_refused(InvalidOperation, lambda value: desk.pair(value, "a", "b"), NO_NAMES + ("a", "b"))
        for value in NO_NAMES + ("x", "zz"):
            self.refuses(UnknownName, desk.pair, "d", value, "b", name=value)
            self.refuses(UnknownName, desk.pair, "d", "a", value, name=value)
        self.refuses(UnknownName, desk.pair, "d", "x", "y", name="x")
        self.refuses(InvalidOperation, desk.pair, "a", "x", "y")
        self.refuses(TooMany, desk.pair, "d", "a", "b", limit=6)
        self.refuses(TooMany, desk.pair, "d", "a", "c", limit=12)
        self.refuses(TooMany, desk.pair, "d", "b", "c", limit=12)
        self.assertEqual(state_of(desk), before)
        for name in "def":
            desk.put(name, Filling.zero(three, 2, (0, 0, 0)))
        self.refuses(TooMany, desk.pair, "g", "d", "e", limit=6)
        self.refuses(TooMany, desk.pair, "g", "a", "c", limit=12)

    def test_turn(self):
        desk = new_desk()
        source = random.Random(2)
        for pledge in (("hom", "a", "c", 1), ("firm", "a"), ("alike", "a", "a"), ("hom", "c", "b", hom_number(desk.filling_named("c"), TAIL)), ("unsplittable", "b")):
            desk.demand(pledge)
        for _ in range(10):
            old = desk.filling_named("c")
            turns = some_turns(source, old)
            self.assertEqual(desk.turn("c", turns), ((), ()))
            self.assertEqual(desk.filling_named("c"), old.changed(turns))
        self.assertEqual((desk.changes, desk.lines[2]), (18, "c: 1 2 in 2 parts"))

    def test_turn_refused(self):
        desk = new_desk()
        before = state_of(desk)
        right = (idle_table(2, 1), idle_table(2, 2))
        for value in NO_NAMES + ("x",):
            self.refuses(UnknownName, desk.turn, value, right, name=value)
        wrong = NO_TUPLES + ((), right[:1], right + right[:1], list(right), right[::-1], (idle_table(3, 1), idle_table(3, 2)), (idle_table(2, 1), zero_table(2, 2, 2)), (right[0], None), (zero_table(2, 1, 1), right[1]), (right[0], Table(2, 2, 2, ((1, 1), (1, 1)))))
        self.all_refused(InvalidFilling, lambda value: desk.turn("c", value), wrong)
        self.refuses(UnknownName, desk.turn, "x", None, name="x")
        self.assertEqual(state_of(desk), before)

    def test_drop(self):
        desk = new_desk()
        for value in NO_NAMES + ("x",):
            self.refuses(UnknownName, desk.drop, value, name=value)
            self.refuses(UnknownName, desk.filling_named, value, name=value)
        self.assertEqual(desk.drop("a"), (("a: 1 1 in 1 parts",), ()))
        self.assertEqual(desk.names, ("b", "c"))
        self.refuses(UnknownName, desk.drop, "a", name="a")
        desk.put("a", NONE)
        self.assertEqual(desk.names, ("a", "b", "c"))

    def test_rename(self):
        desk = new_desk()
        self.assertEqual(desk.rename({"b": "a", "a": "b", "c": "x"}), (("a: 1 1 in 1 parts", "b: 0 1 in 1 parts", "c: 1 2 in 2 parts"), ("a: 0 1 in 1 parts", "b: 1 1 in 1 parts", "x: 1 2 in 2 parts")))
        self.assertEqual((desk.names, desk.filling_named("a"), desk.filling_named("b")), (("a", "b", "x"), TAIL, LONG))
        self.assertEqual(desk.rename({"a": "a", "b": "b", "x": "x"}), ((), ()))
        self.assertEqual(desk.changes, 5)
        self.assertEqual(Desk(LINE, 2).rename({}), ((), ()))

    def test_rename_refused(self):
        desk = new_desk()
        before = state_of(desk)
        wrong = OTHERS + (
            {}, {"a": "x", "b": "y"}, {"a": "x", "b": "y", "c": "z", "d": "w"}, {"a": "x", "b": "y", "d": "z"}, {"a": "x", "b": "x", "c": "z"}, {"a": "x", "b": "y", "c": "Z"}, {"a": "x", "b": "y", "c": None}, {"a": "x", "b": "y", "c": 1}, {"a": "x", "b": "y", "c": ""},
            {"a": "x", "b": "y", "c": "a" * 9}, (("a", "x"), ("b", "y"), ("c", "z")), [("a", "x"), ("b", "y"), ("c", "z")], {"a": "x", "b": "y", None: "z"}, {"a": "x", "b": "y", "c": ["z"]}, {"x": "a", "y": "b", "z": "c"})
        self.all_refused(InvalidOperation, desk.rename, wrong)
        self.assertEqual(state_of(desk), before)

    def test_renamed_pledges_stay(self):
        """Pledges keep their names: an exchange of alike fillings is let, one of others is not."""
        desk = Desk(LINE, 2)
        for name, filling in (("a", LONG), ("b", LONG), ("c", FLAT)):
            desk.put(name, filling)
        desk.demand(("alike", "a", "b"))
        desk.rename({"a": "b", "b": "a", "c": "c"})
        self.refuses(Refused, desk.rename, {"a": "c", "c": "a", "b": "b"}, reason=("alike", "a", "b"))
        self.assertEqual(desk.pledges, (("alike", "a", "b"),))

    def test_equality(self):
        one, other = new_desk(), new_desk()
        self.assertTrue(one == other)
        self.assertIs(one != other, False)
        other.drop("c")
        other.undo()
        self.assertTrue(one == other)
        other.demand(("firm", "a"))
        self.assertFalse(one == other)
        one.demand(("firm", "a"))
        self.assertTrue(one == other)
        one.demand(("firm", "b"))
        other.demand(("hom", "a", "b", 0))
        other.demand(("firm", "b"))
        one.demand(("hom", "a", "b", 0))
        # The order of pledges counts, and what was taken back does not.
        self.assertFalse(one == other)
        self.assertFalse(Desk(LINE, 2) == Desk(LINE, 3))
        self.assertFalse(Desk(LINE, 2) == Desk(LINE.opposite(), 2))
        renamed = new_desk()
        renamed.rename({"a": "x", "b": "b", "c": "c"})
        self.assertFalse(renamed == new_desk())
        turned = new_desk()
        turned.turn("c", (idle_table(2, 1), Table(2, 2, 2, ((0, 1), (1, 0)))))
        self.assertFalse(turned == new_desk())
        for value in OTHERS + NO_TUPLES + (one.lines,):
            self.assertIs(one == value, False)
            self.assertIs(one != value, True)

    def test_contains(self):
        desk = new_desk()
        desk.demand(("hom", "a", "c", 1))
        for value in desk.lines + desk.pledges:
            self.assertIs(value in desk, True)
        for value in OTHERS + NO_TUPLES + NO_PLEDGES + ("a", "a: 1 1", ("hom", "a", "c", True), ["hom", "a", "c", 1], ("hom", "a", "c", 2), ("firm", "a"), LONG, ("a: 1 1 in 1 parts",), desk.lines, desk.pledges, desk):
            self.assertIs(value in desk, False)
        self.assertEqual([line for line in desk], list(desk.lines))
        self.assertEqual(str(desk), "desk of 3 fillings, 1 pledges")


class Changes(Case):

    def test_counts(self):
        desk = new_desk()
        self.assertEqual(desk.undo(), (("c: 1 2 in 2 parts",), ()))
        self.assertEqual((desk.changes, desk.names), (2, ("a", "b")))
        self.assertEqual(desk.redo(), ((), ("c: 1 2 in 2 parts",)))
        self.assertEqual(desk.undo(many=3), (("a: 1 1 in 1 parts", "b: 0 1 in 1 parts", "c: 1 2 in 2 parts"), ()))
        self.assertEqual(desk.redo(many=2), ((), ("a: 1 1 in 1 parts", "b: 0 1 in 1 parts")))
        self.assertEqual((desk.undo(many=0), desk.redo(many=0), desk.changes), (((), ()), ((), ()), 2))
        desk.redo()
        self.assertTrue(desk == new_desk())

    def test_refused(self):
        desk = new_desk()
        desk.undo()
        for call, limit in ((desk.undo, 2), (desk.redo, 1)):
            for value in NO_INTEGERS + (-1,):
                with self.assertRaises(InvalidCount) as caught:
                    call(many=value)
                self.assertIs(caught.exception.value, value)
            for value in (limit + 1, 100, SIXTY):
                with self.assertRaises(NothingToUndo) as caught:
                    call(many=value)
                self.assertEqual(caught.exception.wanted, value)
            with self.assertRaises(TypeError):
                call(1)
        self.assertEqual((desk.changes, desk.names), (2, ("a", "b")))
        empty = Desk(LINE, 2)
        self.refuses(NothingToUndo, empty.undo, wanted=1)
        self.refuses(NothingToUndo, empty.redo, wanted=1)
        self.assertEqual((empty.undo(many=0), empty.redo(many=0)), (((), ()), ((), ())))

    def test_until_another_change(self):
        desk = new_desk()
        desk.undo(many=2)
        # What is refused is no change.
        self.refuses(UnknownName, desk.drop, "x")
        self.refuses(Refused, desk.demand, ("firm", "x"))
        self.refuses(InvalidOperation, desk.put, "a", LONG)
        desk.redo()
        self.assertEqual(desk.names, ("a", "b"))
        desk.put("d", NONE)
        self.refuses(NothingToUndo, desk.redo, wanted=1)
        self.assertEqual((desk.names, desk.changes), (("a", "b", "d"), 3))
        desk.undo(many=0)
        desk.undo()
        desk.rename({"a": "a", "b": "b"})
        self.refuses(NothingToUndo, desk.redo, wanted=1)

    def test_news_in_all(self):
        """Lines that go and come again on the way are no news."""
        desk = new_desk()
        desk.drop("a")
        desk.put("a", LONG)
        self.assertEqual(desk.undo(many=2), ((), ()))
        self.assertEqual(desk.undo(many=1), (("c: 1 2 in 2 parts",), ()))
        self.assertEqual(desk.redo(many=2), (("a: 1 1 in 1 parts",), ("c: 1 2 in 2 parts",)))
        self.assertEqual(desk.redo(), ((), ("a: 1 1 in 1 parts",)))

    def test_pledges_come_back(self):
        desk = new_desk()
        desk.demand(("firm", "a"))
        desk.demand(("firm", "b"))
        desk.waive(("firm", "a"))
        desk.drop("a")
        desk.undo(many=2)
        self.assertEqual(desk.pledges, (("firm", "a"), ("firm", "b")))
        desk.undo(many=5)
        self.assertEqual((desk.pledges, desk.names), ((), ()))
        desk.redo(many=6)
        self.assertEqual((desk.pledges, desk.names), ((("firm", "b"),), ("a", "b", "c")))
        self.refuses(Refused, desk.drop, "b", reason=("firm", "b"))

    def test_trial(self):
        desk = new_desk()
        desk.demand(("firm", "a"))
        desk.undo(many=2)
        before = state_of(desk)
        with desk.trial() as same:
            self.assertIs(same, desk)
            desk.redo()
            desk.put("x", LONG)
            desk.drop("a")
            self.assertEqual(desk.names, ("b", "c", "x"))
        self.assertEqual(state_of(desk), before)
        with desk.trial():
            desk.undo(many=2)
        self.assertEqual(state_of(desk), before)
        self.assertEqual(desk.redo(many=2), ((), ("c: 1 2 in 2 parts",)))
        self.assertEqual(desk.pledges, (("firm", "a"),))

    def test_trial_with_an_error(self):
        desk = new_desk()
        before = state_of(desk)
        with self.assertRaises(UnknownName):
            with desk.trial():
                desk.drop("a")
                desk.drop("a")
        self.assertEqual(state_of(desk), before)
        with self.assertRaises(ZeroDivisionError):
            with desk.trial() as same:
                same.drop("a")
                raise ZeroDivisionError
        self.assertEqual(state_of(desk), before)

    def test_trial_in_a_trial(self):
        desk = new_desk()
        before = state_of(desk)
        with desk.trial():
            desk.drop("a")
            inner = state_of(desk)
            with desk.trial():
                desk.drop("b")
                desk.undo(many=2)
            self.assertEqual(state_of(desk), inner)
            with self.assertRaises(Refused):
                with desk.trial():
                    desk.demand(("firm", "b"))
                    desk.drop("b")
            self.assertEqual(state_of(desk), inner)
        self.assertEqual(state_of(desk), before)

    def test_trial_entered_later(self):
        """The desk is as it was when the block was entered, not when it was asked for."""
        desk = new_desk()
        block = desk.trial()
        desk.drop("a")
        with block:
            desk.drop("b")
        self.assertEqual(desk.names, ("b", "c"))

    def test_during(self):
        desk = new_desk()
        before = state_of(desk)
        self.assertEqual(desk.during(lambda same: (same.drop("a"), same.names, same is desk)), ((("a: 1 1 in 1 parts",), ()), ("b", "c"), True))
        self.assertEqual(state_of(desk), before)
        self.refuses(UnknownName, desk.during, lambda same: same.drop("x"), name="x")
        self.assertIsNone(desk.during(lambda same: None))
        self.assertEqual(desk.during(lambda same: same.during(lambda other: other.drop("b"))), (("b: 0 1 in 1 parts",), ()))
        self.assertEqual(state_of(desk), before)

    def test_twin(self):
        desk = new_desk()
        desk.demand(("firm", "a"))
        desk.undo()
        twin = desk.twin()
        self.assertIsNot(twin, desk)
        self.assertTrue(twin == desk)
        self.assertEqual(state_of(twin), state_of(desk))
        before = state_of(desk)
        twin.redo()
        twin.put("x", NONE)
        twin.undo(many=5)
        self.assertEqual(state_of(desk), before)
        desk.redo()
        self.assertEqual((desk.pledges, twin.pledges, twin.changes), ((("firm", "a"),), (), 0))

    def test_returned_values_are_not_shared(self):
        desk = new_desk()
        names = {"a": "x", "b": "b", "c": "c"}
        desk.rename(names)
        names["a"] = "y"
        self.assertEqual(desk.names, ("b", "c", "x"))
        lines = list(desk)
        lines.clear()
        self.assertEqual(len(list(desk)), 3)


class Walks(Case):
    """A desk against one that is built anew with the same calls."""

    def some_call(self, source, desk):
        kind, names = source.randint(0, 9), desk.names + ("x", "y", "z", "w")
        name, other = source.choice(names), source.choice(names)
        if kind <= 1:
            return "put", (name, some_filling(source, LINE, 2, (source.randint(0, 2), source.randint(0, 2))))
        if kind == 2:
            return "pair", (name, other, source.choice(names))
        if kind == 3:
            turns = some_turns(source, desk.filling_named(name)) if name in desk.names else ()
            return "turn", (name, turns)
        if kind == 4:
            return "drop", (name,)
        if kind == 5:
            new = source.sample(("a", "b", "x", "y", "z", "w", "v"), len(desk.names))
            return "rename", (dict(zip(desk.names, new)),)
        if kind == 6 and desk.pledges:
            return "waive", (source.choice(desk.pledges),)
        return "demand", (source.choice((("alike", name, other), ("hom", name, other, source.randint(0, 3)), ("firm", name), ("unsplittable", name))),)

    def test_against_a_new_one(self):
        source, refused, done = random.Random(3), 0, 0
        for _ in range(25):
            desk, calls, later = Desk(LINE, 2), [], []
            for _ in range(40):
                kind = source.randint(0, 9)
                if kind == 0 and calls:
                    many = source.randint(0, len(calls))
                    desk.undo(many=many)
                    for _ in range(many):
                        later.append(calls.pop())
                elif kind == 1 and later:
                    many = source.randint(0, len(later))
                    desk.redo(many=many)
                    for _ in range(many):
                        calls.append(later.pop())
                else:
                    name, values = self.some_call(source, desk)
                    before = (desk.lines, desk.pledges, desk.changes)
                    try:
                        news = getattr(desk, name)(*values)
                    except (InvalidOperation, UnknownName, TooMany, Refused, InvalidFilling):
                        refused += 1
                        self.assertEqual((desk.lines, desk.pledges, desk.changes), before)
                        continue
                    self.assertEqual(news, (tuple(sorted(set(before[0]) - set(desk.lines))), tuple(sorted(set(desk.lines) - set(before[0])))))
                    calls.append((name, values))
                    later = []
                    done += 1
            again = Desk(LINE, 2)
            for name, values in calls:
                getattr(again, name)(*values)
            self.assertTrue(again == desk)
            self.assertEqual((again.lines, again.changes, len(later)), (desk.lines, desk.changes, steps_again(desk)))
            for line, name in zip(desk.lines, desk.names):
                filling = desk.filling_named(name)
                self.assertEqual(line, f"{name}: {' '.join([str(size) for size in filling.sizes])} in {len(parts_of(filling))} parts")
        self.assertGreater(min(refused, done), 100)


if __name__ == "__main__":
    unittest.main()
