"""[0.1] to [0.7] over the whole program: judges, errors of generators, equality, and values that are not shared."""

import copy
import unittest

from arrowsizes.base.numbers import divisors, is_integer, is_name, is_prime, rows_below
from arrowsizes.canon.canons import are_canonical, canonical_parts, is_splitting
from arrowsizes.chart.plans import Plan, bad_row, is_bad_row, is_sizes
from arrowsizes.counted.counts import firm_polys, put_together, taken_apart
from arrowsizes.errors import InvalidPlan, InvalidPrime, InvalidSizes, InvalidFilling
from arrowsizes.fill.fillings import Filling, hom_base, is_hom, is_hom_base, is_sub
from arrowsizes.fixed.kinds import all_kinds, are_turns_for
from arrowsizes.general.generals import bar_of, best_sub, is_bar, is_best_sub
from arrowsizes.grid.tables import Table, idle_table, spaces, turns
from arrowsizes.joined.joins import class_base, middles, subs_with
from arrowsizes.line.bars import bar_rows, filling_of_bars, is_bar_row, ranks_of_bars
from arrowsizes.mirror.mirrors import hom_table, is_sink_word, root_parts, sink_word
from arrowsizes.origin.roots import is_root_paper, multiplicities, root_paper, signed_sizes
from arrowsizes.paired.pairs import is_lift_paper, lift_paper
from arrowsizes.poly.polys import Poly, Quotient
from arrowsizes.poly.series import Series
from arrowsizes.slices.partitions import is_parts as is_partition
from arrowsizes.special.specials import is_label, is_line_pattern, two_kind, two_of_kind
from arrowsizes.split.splits import any_likeness, idempotent_of, is_idempotent, is_likeness, is_parts, parts_of
from arrowsizes.steady.weights import barring_row, is_barring_row, mean_of, types_of
from arrowsizes.use.desk import Desk, is_pledge
from tests.helpers import Case, OTHERS
from tests.test_plans import STAR, THRICE, TWINS

LINE = Plan.line(2)
CHAIN = Plan.line(3)
EYE = Filling(LINE, 3, (1, 1), (idle_table(3, 1),))
TWO = EYE.summed(EYE)
ROUND = Filling(TWINS, 3, (1, 1), (idle_table(3, 1), Table(3, 1, 1, ((2,),))))


def desk_with_one():
    desk = Desk(LINE, 3)
    desk.put("a", EYE)
    desk.demand(("hom", "a", "a", 1))
    return desk


def deep(value, many):
    for _ in range(many):
        value = (value,)
    return value


# Values that the document names as possible wrong ones: nested ones, long ones, and objects of the package.
ANY = OTHERS + (
    10 ** 99, -10 ** 99, 10 ** 60, 0, 1, -1, 2, 6, 7, "~" * 4000, " ", "real", "hom", "lift", "more", "place", deep(1, 8), deep((), 8), [[[[[[[[]]]]]]]], {0: {1: {2: {3: {}}}}}, {None: None}, {"a": [1, {2: (3,)}]}, {(1, 1): (1, 1)}, (None,) * 3,
    (1, 1), (1, 1, 1), ((1, 1), (1, 1)), (((0, 1), 1),), ("real", (), 0), ("lift", None), ("hom", (), ()), ("place", (), 1), (0, 10 ** 99), ((), ()), (((),), ((),)), ([], []), ({}, {}), (True, False), ((True,), (False,)),
    Desk(LINE, 2), desk_with_one(), (Desk(LINE, 2),), (EYE,), (EYE, EYE), (Plan.line(2), 1), EYE, (idle_table(3, 1), idle_table(3, 1)), (Poly(()), Quotient(1)), Series((1,), {(1,): 1}), ("a", "b"), ("firm", Desk(LINE, 2)))

# Judges with their other arguments, and with values that they accept.
JUDGES = (
    (is_integer, (), (0, 5, -10 ** 60 + 1)), (is_name, (), ("a", "abcdefgh")), (is_prime, (), (2, 97)), (is_partition, (), ((), (2, 1))), (is_sizes, (TWINS,), ((1, 0), (6, 6))), (is_bad_row, (THRICE,), ((1, 1), bad_row(THRICE))),
    (is_root_paper, (THRICE, (3, 1)), (("real", (0,), 1), root_paper(THRICE, (3, 1)))), (is_hom, (EYE, EYE), ((idle_table(3, 1),) * 2,)), (is_hom_base, (EYE, EYE), (hom_base(EYE, EYE),)), (is_sub, (EYE,), (((), ((1,),)), ((), ()))),
    (is_idempotent, (TWO,), (idempotent_of(TWO),)), (is_parts, (TWO,), (parts_of(TWO), (EYE, EYE))), (is_likeness, (TWO, TWO), (any_likeness(TWO, TWO),)), (is_sink_word, (CHAIN, (1, 1, 1)), (((2, 1), 0), sink_word(CHAIN, (1, 1, 1)))),
    (are_turns_for, (TWINS, (1, 1)), ((idle_table(3, 1),) * 2,)), (is_lift_paper, (ROUND, (1, 2)), (lift_paper(ROUND, (1, 2)),)), (is_lift_paper, (ROUND, (1, 1)), (lift_paper(ROUND, (1, 1)),)), (is_bar, (THRICE, (1, 1), (2, 2)), (bar_of(THRICE, (1, 1), (2, 2)), (1, 1))),
    (is_best_sub, (THRICE, (1, 1), (1, 1)), (best_sub(THRICE, (1, 1), (1, 1)),)), (are_canonical, (TWINS, (1, 3)), ({(0, 1): 1, (1, 2): 1},)), (are_canonical, (TWINS, (0, 0)), ({},)), (is_splitting, (TWINS, (2, 2)), ((1, 1),)),
    (is_barring_row, (TWINS, (0, 1), (1, 1)), (barring_row(TWINS, (0, 1), (1, 1)), (0, 1))), (is_bar_row, (2,), ((), (((0, 1), 1),))), (is_label, (2,), (("more", 0), ("more", 1), ("place", (), 1), ("place", (0, 1), 2))),
    (is_line_pattern, (5, 4), (((0, 1, 2, 3), (4,)), ((0, 1, 0, None), ()))), (is_pledge, (), (("hom", "a", "b", 1), ("firm", "a"))))


def with_booleans(value):
    """The value with True for each 1 and False for each 0, as deep as it goes."""
    if isinstance(value, tuple):
        return tuple([with_booleans(part) for part in value])
    if isinstance(value, dict):
        return {with_booleans(key): with_booleans(part) for key, part in value.items()}
    return bool(value) if type(value) is int and value in (0, 1) else value


def with_lists(value):
    return list(value) if isinstance(value, tuple) else value


def has_booleans(value):
    if isinstance(value, dict):
        return any([has_booleans(part) for pair in value.items() for part in pair])
    return any([has_booleans(part) for part in value]) if isinstance(value, tuple) else isinstance(value, bool)


class Judges(Case):

    def test_each_value_is_taken(self):
        for judge, values, right in JUDGES:
            for value in ANY:
                with self.subTest(judge=judge.__name__, value=repr(value)[:50]):
                    self.assertIn(judge(*values, value), (True, False))
                    self.assertIs(type(judge(*values, value)), bool)
            for value in right:
                self.assertIs(judge(*values, value), True)

    def test_true_is_not_one(self):
        tried = 0
        for judge, values, right in JUDGES:
            for value in right:
                other = with_booleans(value)
                if has_booleans(other):
                    tried += 1
                    self.assertIs(judge(*values, other), False, judge.__name__)
                if isinstance(value, tuple):
                    self.assertIs(judge(*values, list(value)), False, judge.__name__)
                    for at, part in enumerate(value):
                        if isinstance(part, tuple):
                            self.assertIs(judge(*values, value[:at] + (with_lists(part),) + value[at + 1:]), False, judge.__name__)
        self.assertGreater(tried, 18)

    def test_values_are_not_changed(self):
        for judge, values, right in JUDGES:
            for value in right:
                if isinstance(value, dict):
                    kept = dict(value)
                    judge(*values, value)
                    self.assertEqual(value, kept)


class Generators(Case):

    def test_errors_come_with_the_first_result(self):
        for generator, error in ((turns(4, 1), InvalidPrime), (spaces(4, 1, 1), InvalidPrime), (all_kinds(None, (1,), 2), InvalidPlan), (bar_rows(None), InvalidSizes), (subs_with(None, None), InvalidFilling)):
            with self.assertRaises(error):
                next(generator)

    def test_one_result_at_a_time(self):
        self.assertEqual(next(turns(2, 1)), idle_table(2, 1))
        self.assertEqual(next(spaces(2, 2, 1)), ((0, 1),))
        self.assertEqual(next(bar_rows((1, 1))), (((0, 0), 1), ((1, 1), 1)))
        self.assertEqual(next(subs_with(EYE, (0, 0))), ((), ()))
        self.assertEqual(next(all_kinds(LINE, (1, 1), 3)), Filling.zero(LINE, 3, (1, 1)))


class Values(Case):

    def objects(self):
        return (Poly((1, 2)), Quotient(1, 2), Series((1,), {(1,): 1}), idle_table(3, 1), Plan.line(2), EYE, desk_with_one())

    def test_equality(self):
        for at, one in enumerate(self.objects()):
            for place, other in enumerate(self.objects()):
                self.assertIs(one == other, at == place)
                self.assertIs(one != other, at != place)
            for value in ANY:
                self.assertIs(one == value, type(value) is type(one) and self.are_equal(one, value))
                self.assertIs(one != value, not one == value)

    def are_equal(self, one, value):
        told = {"Poly": lambda: one.coefficients == value.coefficients, "Quotient": lambda: str(one) == str(value), "Series": lambda: (one.bound, one.entries) == (value.bound, value.entries),
                "Table": lambda: (one.prime, one.rows) == (value.prime, value.rows), "Plan": lambda: (one.size, one.arrows) == (value.size, value.arrows), "Filling": lambda: (one.sizes, one.prime, one.tables) == (value.sizes, value.prime, value.tables),
                "Desk": lambda: (one.lines, one.pledges) == (value.lines, value.pledges)}
        return bool(told[type(one).__name__]())

    def test_iteration(self):
        for one in self.objects()[:-1]:
            self.never_iterated(one)
        self.never_iterated(desk_with_one().trial())
        self.assertEqual(list(desk_with_one()), ["a: 1 1 in 1 parts"])

    def test_in_takes_each_value(self):
        desk = desk_with_one()
        for value in ANY:
            self.assertIs(value in desk, False)
        self.assertIs(("hom", "a", "a", 1) in desk, True)
        self.assertIs("a: 1 1 in 1 parts" in desk, True)

    def test_returned_dicts_are_not_shared(self):
        desk, series = desk_with_one(), Series((2,), {(0,): 1, (1,): 2})
        calls = (lambda: canonical_parts(TWINS, (1, 3)), lambda: ranks_of_bars(2, (((0, 1), 1),)), lambda: two_kind(ROUND), lambda: multiplicities(TWINS, (2, 1)), lambda: signed_sizes(TWINS, (2, 2)), lambda: hom_table(CHAIN), lambda: root_parts(TWO),
                 lambda: firm_polys(TWINS, (1, 1)), lambda: series.entries, lambda: taken_apart({(0,): 1, (1,): 2}), lambda: put_together({(1,): 2}))
        for call in calls:
            first = call()
            self.assertIs(type(first), dict)
            self.assertEqual(list(first), sorted(first))
            kept = dict(first)
            first.clear()
            self.assertEqual(call(), kept)
        self.assertEqual(desk.pledges, (("hom", "a", "a", 1),))

    def test_passed_dicts_are_not_changed(self):
        entries, kind, names = {(1,): 1, (0,): 2}, {("more", 0): 1, ("less", 1): 1}, {"a": "b"}
        kept = copy.deepcopy((entries, kind, names))
        series = Series((1,), entries)
        two_of_kind(2, kind)
        desk = Desk(LINE, 3)
        desk.put("a", EYE)
        desk.rename(names)
        self.assertEqual((entries, kind, names), kept)
        entries.clear()
        names.clear()
        self.assertEqual((len(series.entries), desk.names), (2, ("b",)))

    def test_order_of_passed_dicts(self):
        self.assertIs(are_canonical(TWINS, (1, 3), {(1, 2): 1, (0, 1): 1}), True)
        self.assertEqual(two_of_kind(2, {("more", 0): 1, ("less", 1): 1}), two_of_kind(2, {("less", 1): 1, ("more", 0): 1}))

    def test_equal_calls(self):
        calls = (lambda: root_paper(THRICE, (3, 3)), lambda: parts_of(TWO), lambda: middles(Filling.single(LINE, 3, 0), Filling.single(LINE, 3, 1)), lambda: class_base(Filling.single(LINE, 3, 0), Filling.single(LINE, 3, 1)), lambda: list(subs_with(TWO, (1, 1))),
                 lambda: types_of(TWINS, (0, 1), (2, 2)), lambda: list(bar_rows((2, 2))), lambda: filling_of_bars(2, 3, (((0, 1), 2),)), lambda: hom_base(TWO, TWO), lambda: lift_paper(ROUND, (1, 2)), lambda: best_sub(STAR, (1, 1, 1, 1), (1, 0, 0, 0)))
        for call in calls:
            self.assertEqual(call(), call())

    def test_long_integers(self):
        """Integers of sixty digits go, longer ones are invalid; what the package makes may be longer."""
        great = 10 ** 60 - 1
        self.assertEqual(mean_of(TWINS, (great, great), (6, 6)), (great, 1))
        self.assertEqual(mean_of(TWINS, (great, 0), (6, 6))[0] * 2, great * mean_of(TWINS, (great, 0), (6, 6))[1])
        self.assertGreater(mean_of(TWINS, (great, great), (6, 5))[0], 10 ** 59)
        self.assertEqual(len(divisors(6)), len(rows_below((3,))))


if __name__ == "__main__":
    unittest.main()
