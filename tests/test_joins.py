"""[18.1] to [18.8] and what stands there: joins of fillings."""

import itertools
import random
import unittest
from fractions import Fraction

from arrowsizes.chart.plans import Plan
from arrowsizes.errors import InvalidFilling, InvalidOperation, InvalidSizes, TooMany
from arrowsizes.fill.fillings import (
    Filling, ext_number, hom_number, is_sub, plain_spaces, quotient_filling, sub_filling)
from arrowsizes.fixed.kinds import all_kinds, keepers_number
from arrowsizes.grid.tables import Table, idle_table, spaces, zero_table
from arrowsizes.joined import joins as module
from arrowsizes.joined.joins import (
    class_base, extended, join_number, likeness_number, line_join, line_sort, middle_number, middles, subs_with)
from arrowsizes.line.bars import bar_row_of, bar_rows, filling_of_bars
from arrowsizes.poly.polys import Poly, gauss
from arrowsizes.special.specials import two_filling
from arrowsizes.split.splits import are_alike, parts_of
from tests.helpers import Case, NO_TUPLES, OTHERS, all_rows
from tests.some_fillings import (
    BARE, BOTH_WAYS, all_fillings, all_tables, round_filling, some_filling, some_fillings, some_pairs, some_sizes, some_turns)
from tests.test_fillings import EYE, HEAD, LINE, NO_FILLINGS, NO_SIZES, ONE, TAIL
from tests.test_plans import APART, BENT, FULL, POINT, RING, STAR, THRICE, TWINS

THREE = Plan.line(3)
ZERO_SORT = (0, 0, 0)


def plus(one, other):
    return tuple([a + b for a, b in zip(one, other)])


def less(one, other):
    return tuple([a - b for a, b in zip(one, other)])


def sub_lots(filling, sizes):
    """All subs with some sizes, by all rows of spaces."""
    options = [list(spaces(filling.prime, size, many)) if many <= size else [] for size, many in zip(filling.sizes, sizes)]
    return [lot for lot in itertools.product(*options) if is_sub(filling, lot)]


def joins_by_subs(whole, sub, rest):
    found = 0
    for lot in sub_lots(whole, sub.sizes):
        found += are_alike(sub_filling(whole, lot), sub) and are_alike(quotient_filling(whole, lot), rest)
    return found


def all_between(rest, sub):
    """All rows of tables from the rest to the sub."""
    return list(itertools.product(*[all_tables(rest.prime, sub.sizes[j], rest.sizes[i]) for i, j in rest.plan.arrows]))


def lost(rest, sub):
    """All rows of the form f_j * x - y * f_i, by their rows."""
    found = set()
    for tables in itertools.product(*[all_tables(rest.prime, high, wide) for high, wide in zip(sub.sizes, rest.sizes)]):
        row = [tables[j].times(x).minus(y.times(tables[i])) for (i, j), x, y in zip(rest.plan.arrows, rest.tables, sub.tables)]
        found.add(tuple([table.rows for table in row]))
    return found


def rows_of(between):
    return tuple([table.rows for table in between])


def pairs_few(seed, many, most=2, total=4, limit=1500):
    """Pairs of fillings with few rows of tables between them."""
    found = []
    for rest, sub in some_pairs(seed, many, most, total):
        size = sum([rest.sizes[i] * sub.sizes[j] for i, j in rest.plan.arrows])
        if rest.prime ** size <= limit and rest.prime ** sum([a * b for a, b in zip(rest.sizes, sub.sizes)]) <= limit:
            found.append((rest, sub))
    return found


def kinds_of(plan, prime, sizes):
    return list(all_kinds(plan, sizes, prime))


class Subs(Case):

    def test_constant(self):
        self.assertEqual(module.MAX_JOINED, 20000)

    def test_by_all_rows(self):
        tried = 0
        for filling in some_fillings(1, 120, most=2, total=5):
            if filling.prime ** filling.total > 400:
                continue
            tried += 1
            for sizes in all_rows(*filling.sizes):
                found = list(subs_with(filling, sizes))
                self.assertEqual(sorted(found), sorted(sub_lots(filling, sizes)))
                for lot in found:
                    self.assertEqual(plain_spaces(filling, lot), lot)
        self.assertGreater(tried, 40)

    def test_none(self):
        self.assertEqual(list(subs_with(EYE, (2, 0))), [])
        self.assertEqual(list(subs_with(EYE, (6, 6))), [])
        self.assertEqual(list(subs_with(EYE, (0, 0))), [((), ())])
        self.assertEqual(list(subs_with(EYE, (1, 1))), [(((1,),), ((1,),))])
        self.assertEqual(list(subs_with(Filling.zero(FULL, 7, (0,) * 6), (0,) * 6)), [((),) * 6])

    def test_bounds(self):
        """A space of the height 6 over 7 has 19608 subspaces with the free number 1."""
        self.assertEqual(len(list(subs_with(Filling.zero(POINT, 7, (6,)), (5,)))), 19608)
        self.assertEqual(len(list(subs_with(Filling.zero(FULL, 7, (6,) * 6), (6, 0, 6, 0, 0, 0)))), 1)
        self.assertEqual(len(list(subs_with(Filling.zero(FULL, 7, (6,) * 6), (6,) * 6))), 1)
        for plan, prime, sizes, inner in ((POINT, 7, (6,), (2,)), (Plan.line(2), 2, (6, 6), (1, 3)), (Plan.line(3), 7, (2, 5, 2), (1, 1, 1)), (FULL, 2, (6,) * 6, (3,) * 6)):
            subs = subs_with(Filling.zero(plan, prime, sizes), inner)
            with self.assertRaises(TooMany) as caught:
                next(subs)
            self.assertEqual(caught.exception.limit, 20000)
        # A size that is too great leaves no row of subspaces.
        self.assertEqual(list(subs_with(Filling.zero(Plan.line(2), 7, (6, 5)), (3, 6))), [])

    def test_errors(self):
        self.all_refused(InvalidFilling, lambda value: next(subs_with(value, (1, 1))), NO_FILLINGS)
        self.all_refused(InvalidSizes, lambda value: next(subs_with(EYE, value)), NO_SIZES)
        subs = subs_with(None, None)
        self.refuses(InvalidFilling, next, subs)


class Joins(Case):

    def test_by_all_subs(self):
        met, source = 0, random.Random(2)
        for plan, prime, sizes in ((LINE, 2, (2, 2)), (LINE, 3, (2, 1)), (THREE, 2, (1, 2, 1)), (TWINS, 2, (2, 1)), (TWINS, 2, (2, 2)), (BENT, 2, (1, 2, 1)), (BOTH_WAYS, 2, (2, 1)), (RING, 2, (1, 1, 1)), (POINT, 2, (3,)), (BARE, 3, (1, 2))):
            wholes = kinds_of(plan, prime, sizes)
            for whole in source.sample(wholes, min(5, len(wholes))):
                for inner in all_rows(*sizes):
                    outer = tuple([a - b for a, b in zip(sizes, inner)])
                    for sub in kinds_of(plan, prime, inner)[:5]:
                        for rest in kinds_of(plan, prime, outer)[:5]:
                            found = join_number(whole, sub, rest)
                            met += found > 1
                            self.same(found, joins_by_subs(whole, sub, rest))
        self.assertGreater(met, 40)

    def test_added_up(self):
        """All subs of some sizes, by the kinds of the subs and of the quotients."""
        source = random.Random(3)
        for plan, prime, sizes in ((LINE, 2, (2, 3)), (TWINS, 2, (2, 2)), (TWINS, 3, (2, 1)), (BENT, 2, (1, 2, 1)), (THREE, 2, (2, 2, 1))):
            for _ in range(3):
                whole = some_filling(source, plan, prime, sizes)
                for inner in all_rows(*sizes):
                    outer = tuple([a - b for a, b in zip(sizes, inner)])
                    total = sum([join_number(whole, sub, rest) for sub in kinds_of(plan, prime, inner) for rest in kinds_of(plan, prime, outer)])
                    self.assertEqual(total, len(list(subs_with(whole, inner))))

    def test_alike_ones(self):
        source = random.Random(4)
        for rest, sub in pairs_few(4, 60):
            whole = rest.summed(sub)
            told = join_number(whole, sub, rest)
            self.assertGreater(told, 0)
            turned = [filling.changed(some_turns(source, filling)) for filling in (whole, sub, rest)]
            self.assertEqual(join_number(*turned), told)

    def test_sizes_that_do_not_add_up(self):
        for whole, sub, rest in ((EYE, EYE, EYE), (EYE, HEAD, HEAD), (HEAD, EYE, TAIL), (EYE, TAIL, Filling.zero(LINE, 2, (0, 0)))):
            self.same(join_number(whole, sub, rest), 0)
        six, none = Filling.zero(LINE, 7, (6, 6)), Filling.zero(LINE, 7, (0, 0))
        # Too many rows of subspaces, but the sizes do not add up.
        self.same(join_number(six, Filling.zero(LINE, 7, (3, 3)), none), 0)
        self.refuses(TooMany, join_number, six, Filling.zero(LINE, 7, (3, 3)), Filling.zero(LINE, 7, (3, 3)), limit=20000)
        self.same(join_number(six, six, none), 1)
        self.same(join_number(six, none, six), 1)

    def test_great_ones(self):
        point = [Filling.zero(POINT, 7, (size,)) for size in range(7)]
        self.assertEqual(join_number(point[6], point[1], point[5]), 19608)
        whole = Filling(TWINS, 2, (5, 4), (zero_table(2, 4, 5), zero_table(2, 4, 5)))
        self.assertEqual(join_number(whole, Filling.zero(TWINS, 2, (2, 2)), Filling.zero(TWINS, 2, (3, 2))), gauss(5, 2).at(2) * gauss(4, 2).at(2))

    def test_not_true(self):
        self.assertEqual((join_number(EYE, TAIL, HEAD), join_number(EYE, HEAD, TAIL)), (1, 0))
        self.assertEqual(join_number(HEAD.summed(TAIL), HEAD, TAIL), 1)

    def test_errors(self):
        for call in (join_number, lambda one, other, third: middle_number(other, third, one), lambda one, other, third: middle_number(one, other, third)):
            for at in range(3):
                self.all_refused(InvalidFilling, lambda value: call(*[value if at == place else EYE for place in range(3)]), NO_FILLINGS)
            for other in (Filling.zero(LINE, 3, (1, 1)), Filling.zero(LINE.opposite(), 2, (1, 1)), Filling.zero(POINT, 2, (1,))):
                for at in range(3):
                    self.refuses(InvalidOperation, call, *[other if at == place else EYE for place in range(3)])
            self.refuses(InvalidFilling, call, EYE, Filling.zero(LINE, 3, (1, 1)), None)
        far = Filling.zero(THREE, 2, (6, 6, 1))
        near, none = Filling.zero(THREE, 2, (6, 6, 0)), Filling.zero(THREE, 2, (0, 0, 0))
        for lot in ((far, none, none), (none, far, none), (none, none, far), (far, near, none), (far, far, none)):
            self.refuses(TooMany, join_number, *lot, limit=12)
        self.refuses(InvalidOperation, join_number, far, none, EYE)


class Classes(Case):

    def test_extended(self):
        for rest, sub in pairs_few(5, 80, limit=100):
            for between in all_between(rest, sub)[:20]:
                found = extended(rest, sub, between)
                self.assertEqual((found.plan, found.prime, found.sizes), (rest.plan, rest.prime, plus(sub.sizes, rest.sizes)))
                for (start, _), inner, part, outer, table in zip(rest.plan.arrows, sub.tables, between, rest.tables, found.tables):
                    rows = [a + b for a, b in zip(inner.rows, part.rows)] + [(0,) * sub.sizes[start] + row for row in outer.rows]
                    self.assertEqual(table.rows, tuple(rows))
                units = tuple([idle_table(found.prime, size).rows[:inner] for size, inner in zip(found.sizes, sub.sizes)])
                self.assertIs(is_sub(found, units), True)
                self.assertEqual((sub_filling(found, units), quotient_filling(found, units)), (sub, rest))

    def test_base(self):
        """Each class has just one sum of multiples of the base."""
        tried = 0
        for rest, sub in pairs_few(6, 250, limit=600):
            base, gone = class_base(rest, sub), lost(rest, sub)
            self.assertEqual(len(base), ext_number(rest, sub))
            self.assertIs(type(base), tuple)
            everything = all_between(rest, sub)
            sums = [tuple([table.minus(table) for table in everything[0]])]
            for row in base:
                self.assertIs(type(row), tuple)
                sums = [tuple([a.plus(b.scaled(k)) for a, b in zip(told, row)]) for told in sums for k in range(rest.prime)]
            met = set()
            for told in sums:
                for row in gone:
                    met.add(tuple([tuple([tuple([(a + b) % rest.prime for a, b in zip(x, y)]) for x, y in zip(rows, table.rows)]) for rows, table in zip(row, told)]))
            tried += len(base) > 0
            self.assertEqual(len(met), len(sums) * len(gone))
            self.assertEqual(met, {rows_of(between) for between in everything})
        self.assertGreater(tried, 60)

    def test_one_class_alike(self):
        """Rows of one class tell alike extensions; the class of 0 tells the sum."""
        for rest, sub in pairs_few(7, 40, limit=64):
            gone = lost(rest, sub)
            for between in all_between(rest, sub)[:6]:
                one = extended(rest, sub, between)
                for row in sorted(gone)[:4]:
                    other = tuple([Table(rest.prime, table.height, table.width, tuple([tuple([(a + b) % rest.prime for a, b in zip(x, y)]) for x, y in zip(table.rows, rows)])) for table, rows in zip(between, row)])
                    self.assertIs(are_alike(one, extended(rest, sub, other)), True)
                if rows_of(between) in gone:
                    self.assertIs(are_alike(one, sub.summed(rest)), True)

    def test_extended_refused(self):
        rest, sub = Filling.zero(TWINS, 3, (2, 1)), Filling.zero(TWINS, 3, (1, 3))
        right = (zero_table(3, 3, 2), zero_table(3, 3, 2))
        extended(rest, sub, right)
        wrong = NO_TUPLES + OTHERS + ((), right[:1], right + right[:1], list(right), (right[0], None), (right[0], zero_table(5, 3, 2)), (right[0], zero_table(3, 2, 3)), (right[0], zero_table(3, 1, 2)), (right[0].rows, right[1].rows))
        self.all_refused(InvalidOperation, lambda value: extended(rest, sub, value), wrong)
        self.assertEqual(extended(Filling.zero(BARE, 2, (1, 0)), Filling.zero(BARE, 2, (1, 2)), ()), Filling.zero(BARE, 2, (2, 2)))
        self.all_refused(InvalidFilling, lambda value: extended(value, sub, right), NO_FILLINGS)
        self.all_refused(InvalidFilling, lambda value: extended(rest, value, right), NO_FILLINGS)
        self.refuses(InvalidFilling, extended, EYE, None, None)
        self.refuses(InvalidOperation, extended, EYE, Filling.zero(LINE, 3, (1, 1)), (ONE,))
        self.refuses(InvalidOperation, extended, Filling.zero(LINE, 2, (6, 6)), Filling.zero(LINE, 2, (6, 6)), ())

    def test_totals(self):
        def pair(one, other):
            return Filling.zero(BARE3, 2, one), Filling.zero(BARE3, 2, other)
        for call in (lambda rest, sub: extended(rest, sub, ()), middles):
            self.assertIsNotNone(call(*pair((6, 3, 0), (0, 3, 0))))
            self.refuses(TooMany, call, *pair((6, 3, 0), (0, 3, 1)), limit=12)
            self.refuses(TooMany, call, *pair((6, 3, 0), (1, 3, 0)), limit=6)
            self.refuses(TooMany, call, *pair((6, 6, 6), (1, 0, 0)), limit=6)
            self.refuses(TooMany, call, *pair((6, 6, 1), (0, 0, 0)), limit=12)
            self.refuses(TooMany, call, *pair((0, 0, 0), (6, 6, 1)), limit=12)
        self.assertEqual(class_base(*pair((6, 6, 0), (6, 6, 0))), ())
        self.refuses(TooMany, class_base, *pair((6, 6, 1), (0, 0, 0)), limit=12)
        self.refuses(TooMany, class_base, *pair((0, 0, 0), (6, 6, 1)), limit=12)
        none = Filling.zero(BARE3, 2, (0, 0, 0))
        self.same(middle_number(*pair((6, 3, 0), (1, 2, 0)), none), 0)
        self.same(middle_number(*pair((6, 0, 0), (6, 0, 0)), none), 0)
        self.refuses(TooMany, middle_number, *pair((6, 3, 0), (1, 3, 0)), none, limit=12)
        self.refuses(TooMany, middle_number, none, none, Filling.zero(BARE3, 2, (6, 6, 1)), limit=12)

    def test_class_base_refused(self):
        for call in (class_base, middles):
            self.all_refused(InvalidFilling, lambda value: call(value, EYE), NO_FILLINGS)
            self.all_refused(InvalidFilling, lambda value: call(EYE, value), NO_FILLINGS)
            for other in (Filling.zero(LINE, 3, (1, 1)), Filling.zero(LINE.opposite(), 2, (1, 1)), Filling.zero(POINT, 2, (1,))):
                self.refuses(InvalidOperation, call, EYE, other)


BARE3 = Plan(3, ())


class Middles(Case):

    def check_all(self, rest, sub):
        """The middles, by all rows of tables, against classes and likenesses."""
        found = middles(rest, sub)
        size = len(lost(rest, sub))
        counts = [0] * len(found)
        for between in all_between(rest, sub):
            whole = extended(rest, sub, between)
            alike = [at for at, (filling, _) in enumerate(found) if are_alike(filling, whole)]
            self.assertEqual(len(alike), 1)
            counts[alike[0]] += 1
        self.assertEqual(counts, [many * size for _, many in found])

    def test_by_all_rows(self):
        tried = 0
        for rest, sub in pairs_few(8, 300, limit=50):
            if ext_number(rest, sub) > 0:
                tried += 1
                self.check_all(rest, sub)
        self.assertGreater(tried, 40)

    def test_parts_of_high_degrees(self):
        """Fillings that split over larger fields alone, and others with nilpotent endomorphisms."""
        turned = round_filling(2, (1, 1))
        nilpotent = round_filling(2, (0,), 2)
        for rest, sub in ((turned, Filling.single(TWINS, 2, 1)), (Filling.single(TWINS, 2, 0), turned), (nilpotent, Filling.single(TWINS, 2, 1)), (nilpotent, round_filling(2, (0,))), (round_filling(2, (0,)), nilpotent),
                          (round_filling(3, (1,)), round_filling(3, (1,))), (turned, round_filling(2, (0,)))):
            self.check_all(rest, sub)

    def test_great_parts(self):
        turned, nilpotent = round_filling(2, (1, 1)), round_filling(2, (1,), 3)
        for rest, sub in ((turned, turned), (nilpotent, nilpotent), (round_filling(2, (1, 1), 2), turned), (turned.summed(turned), turned), (round_filling(3, (1, 0)), round_filling(3, (1, 0))), (round_filling(2, (1, 1, 0)), round_filling(2, (1, 1, 0)))):
            self.check_numbers(rest, sub)

    def test_sums_of_great_parts(self):
        """Sums of parts that have sizes above 1 at single points."""
        source, met = random.Random(15), 0
        labels = (("more", 1), ("less", 1), ("more", 2), ("place", (0, 1), 2), ("place", (), 2), ("more", 0), ("less", 0), ("place", (1, 1), 1), ("place", (1, 1), 2))
        while met < 15:
            lots = [[source.choice(labels) for _ in range(2)] for _ in range(2)]
            rest, sub = [two_filling(2, lot[0]).summed(two_filling(2, lot[1])) for lot in lots]
            if max(plus(rest.sizes, sub.sizes)) <= 6 and 0 < ext_number(rest, sub) <= 5:
                met += 1
                for whole, many in self.check_numbers(rest, sub)[:1]:
                    self.by_join_number(rest, sub, whole, many)

    def test_nilpotent_endomorphisms_without_homs_back(self):
        """Nilpotent endomorphisms of the one filling lead classes to others, and no hom leads back."""
        plan = Plan(3, ((0, 1), (0, 1), (0, 2)))
        for prime, labels in ((2, (("place", (0, 1), 2),)), (2, (("place", (), 3),)), (3, (("place", (1, 1), 2), ("more", 1))), (2, (("place", (1, 1, 1), 2),)), (2, (("place", (0, 1), 2), ("place", (0, 1), 1))), (5, (("place", (3, 1), 2),)),
                              (2, (("place", (1, 1, 1), 1), ("place", (0, 1), 2))), (2, (("more", 1), ("more", 1)))):
            two = two_filling(prime, labels[0])
            for label in labels[1:]:
                two = two.summed(two_filling(prime, label))
            for many in (1, 2):
                if prime ** (two.sizes[0] * many) > 2500 or two.total + many > 12:
                    continue
                rest = Filling(plan, prime, two.sizes + (0,), two.tables + (zero_table(prime, 0, two.sizes[0]),))
                sub = Filling.zero(plan, prime, (0, 0, many))
                self.assertEqual(hom_number(sub, rest), 0)
                for whole, number in self.check_numbers(rest, sub):
                    self.by_join_number(rest, sub, whole, number)
                self.check_numbers(sub.turned_over(), rest.turned_over())

    def check_numbers(self, rest, sub):
        found = middles(rest, sub)
        self.assertEqual(sum([many for _, many in found]), rest.prime ** ext_number(rest, sub))
        for at, (whole, many) in enumerate(found):
            self.assertFalse([other for other, _ in found[:at] if are_alike(whole, other)])
            if at < 6:
                self.same(middle_number(rest, sub, whole), many)
        return found

    def test_added_up(self):
        source, tried = random.Random(9), 0
        for _ in range(120):
            plan, prime = source.choice((LINE, THREE, TWINS, THRICE, BENT, STAR, RING, BOTH_WAYS, APART)), source.choice((2, 3, 5, 7))
            rest, sub = [some_filling(source, plan, prime, some_sizes(source, plan, 2, 4)) for _ in range(2)]
            if 0 < ext_number(rest, sub) and prime ** ext_number(rest, sub) <= 400:
                tried += 1
                for whole, many in self.check_numbers(rest, sub)[:4]:
                    self.by_join_number(rest, sub, whole, many)
        self.assertGreater(tried, 30)

    def by_join_number(self, rest, sub, whole, many):
        """[18.4]."""
        rows = 1
        for size, low in zip(whole.sizes, sub.sizes):
            rows *= gauss(size, low).at(rest.prime)
        if rows <= 3000:
            number = join_number(whole, sub, rest)
            left = number * rest.prime ** hom_number(rest, sub) * likeness_number(rest) * likeness_number(sub)
            self.assertEqual(left, many * likeness_number(whole))

    def test_what_is_no_middle(self):
        for rest, sub in ((HEAD, TAIL), (EYE, EYE), (TAIL, HEAD)):
            sizes = plus(rest.sizes, sub.sizes)
            for whole in kinds_of(LINE, 2, sizes):
                number = join_number(whole, sub, rest)
                told = number * 2 ** hom_number(rest, sub) * likeness_number(rest) * likeness_number(sub)
                self.assertEqual(told, middle_number(rest, sub, whole) * likeness_number(whole))
        self.same(middle_number(HEAD, TAIL, HEAD), 0)
        self.same(middle_number(HEAD, TAIL, Filling.zero(LINE, 2, (0, 0))), 0)

    def test_bar_rows(self):
        """For points in a row the middles are told by bars."""
        source = random.Random(10)
        for _ in range(25):
            one, other = [source.choice(list(bar_rows(tuple([source.randint(0, 2) for _ in range(3)])))) for _ in range(2)]
            rest, sub = filling_of_bars(3, 2, one), filling_of_bars(3, 2, other)
            found = middles(rest, sub)
            rows = [bar_row_of(whole) for whole, _ in found]
            self.assertEqual(len(rows), len(set(rows)))
            self.assertEqual(sum([many for _, many in found]), 2 ** ext_number(rest, sub))

    def test_bounds(self):
        """Three by three over 3: 19683 classes, by the ranks of their tables."""
        rest, sub = Filling.zero(LINE, 3, (3, 0)), Filling.zero(LINE, 3, (0, 3))
        self.assertEqual(sorted([(line_sort(whole)[2], many) for whole, many in middles(rest, sub)]), [(0, 1), (1, 338), (2, 8112), (3, 11232)])
        self.assertEqual(middle_number(rest, sub, Filling(LINE, 3, (3, 3), (idle_table(3, 3),))), 11232)
        nine = Plan.twins(9)
        found = middles(Filling.zero(nine, 2, (1, 0)), Filling.zero(nine, 2, (0, 1)))
        self.assertEqual([many for _, many in found], [1] * 512)
        seven = Plan.twins(7)
        found = middles(Filling.zero(seven, 2, (2, 0)), Filling.zero(seven, 2, (0, 1)))
        self.assertEqual((len(found), sum([many for _, many in found])), (1 + 127 + 2667, 2 ** 14))
        for plan, prime, one, other in ((LINE, 2, (3, 0), (0, 5)), (LINE, 5, (1, 0), (0, 6)), (LINE, 3, (2, 0), (0, 5)), (nine, 3, (2, 0), (0, 1)), (THRICE, 7, (1, 0), (0, 2))):
            rest, sub = Filling.zero(plan, prime, one), Filling.zero(plan, prime, other)
            if prime ** ext_number(rest, sub) > 20000:
                self.refuses(TooMany, middles, rest, sub, limit=20000)
                self.refuses(TooMany, middle_number, rest, sub, Filling.zero(plan, prime, plus(one, other)), limit=20000)
                self.refuses(TooMany, middle_number, rest, sub, Filling.zero(plan, prime, (0, 0)), limit=20000)
        rest = Filling.zero(LINE, 2, (4, 0))
        self.refuses(TooMany, middles, rest, Filling.zero(LINE, 2, (0, 4)), limit=20000)

    def test_zeros(self):
        none = Filling.zero(LINE, 5, (0, 0))
        eye = Filling(LINE, 5, (1, 1), (idle_table(5, 1),))
        for rest, sub in ((none, none), (none, eye), (eye, none)):
            found = middles(rest, sub)
            self.assertEqual([many for _, many in found], [1])
            self.assertIs(are_alike(found[0][0], rest.summed(sub)), True)
            self.assertEqual((join_number(rest.summed(sub), sub, rest), middle_number(rest, sub, rest.summed(sub)), class_base(rest, sub)), (1, 1, ()))
        self.same(likeness_number(none), 1)


class Likenesses(Case):

    def test_by_keepers(self):
        tried = 0
        for filling in some_fillings(11, 150, most=3, total=6):
            if filling.prime ** hom_number(filling, filling) <= 3000:
                tried += 1
                self.same(likeness_number(filling), keepers_number(filling))
        self.assertGreater(tried, 60)

    def test_high_degrees(self):
        for filling in (round_filling(2, (1, 1)), round_filling(2, (1, 1), 2), round_filling(2, (1, 1)).summed(round_filling(2, (1, 1))), round_filling(3, (1, 0)), round_filling(2, (1, 1, 0))):
            self.assertEqual(likeness_number(filling), keepers_number(filling))

    def test_turns(self):
        for prime in (2, 3, 5, 7):
            for size in range(7):
                told = 1
                for at in range(size):
                    told *= prime ** size - prime ** at
                self.same(likeness_number(Filling.zero(POINT, prime, (size,))), told)

    def test_errors(self):
        self.all_refused(InvalidFilling, likeness_number, NO_FILLINGS)
        self.assertGreater(likeness_number(Filling.zero(THREE, 7, (6, 0, 6))), 7 ** 60)
        self.refuses(TooMany, likeness_number, Filling.zero(THREE, 7, (6, 1, 6)), limit=12)


class Three(Case):
    """[18.5]."""

    def test_three(self):
        source = random.Random(12)
        for plan, prime, sizes, many in ((LINE, 2, ((1, 1), (1, 0), (0, 1)), 30), (LINE, 3, ((1, 1), (1, 1), (0, 1)), 20), (TWINS, 2, ((1, 0), (0, 1), (1, 1)), 20), (TWINS, 2, ((1, 0), (0, 1), (0, 1)), 20),
                                         (BOTH_WAYS, 2, ((1, 0), (0, 1), (1, 0)), 20), (POINT, 2, ((1,), (2,), (1,)), 10)):
            met = 0
            for _ in range(many):
                a, b, c = [source.choice(kinds_of(plan, prime, source.choice(sizes))) for _ in range(3)]
                sizes_of_all = plus(plus(a.sizes, b.sizes), c.sizes)
                if prime ** sum([sizes_of_all[i] * sizes_of_all[j] for i, j in plan.arrows]) > 4096:
                    continue
                whole = source.choice(kinds_of(plan, prime, sizes_of_all))
                left = sum([join_number(whole, c, m) * join_number(m, b, a) for m in kinds_of(plan, prime, plus(a.sizes, b.sizes))])
                right = sum([join_number(whole, m, a) * join_number(m, c, b) for m in kinds_of(plan, prime, plus(b.sizes, c.sizes))])
                met += left > 0
                self.assertEqual(left, right)
            self.assertGreater(met, 3)


class FourFillings(Case):
    """[18.6]."""

    def four(self, plan, prime, m, n, x, y):
        t = likeness_number
        left = Fraction(0)
        for whole in kinds_of(plan, prime, plus(m.sizes, n.sizes)):
            left += Fraction(join_number(whole, n, m) * join_number(whole, y, x), t(whole))
        right = Fraction(0)
        for b_sizes in all_rows(*m.sizes):
            a_sizes, d_sizes = less(m.sizes, b_sizes), less(y.sizes, b_sizes)
            c_sizes = less(x.sizes, a_sizes)
            if min(c_sizes + d_sizes) < 0 or plus(c_sizes, d_sizes) != n.sizes:
                continue
            lots = [kinds_of(plan, prime, row) for row in (a_sizes, b_sizes, c_sizes, d_sizes)]
            for a, b, c, d in itertools.product(*lots):
                number = join_number(m, b, a) * join_number(n, d, c) * join_number(x, c, a) * join_number(y, d, b)
                if number:
                    form = plan.form(a.sizes, d.sizes)
                    right += Fraction(prime) ** -form * number * t(a) * t(b) * t(c) * t(d)
        return left, right / (t(m) * t(n) * t(x) * t(y))

    def test_four(self):
        source, met = random.Random(13), 0
        for plan, prime, sizes in ((LINE, 2, ((1, 1), (1, 0), (0, 1), (2, 1))), (LINE, 3, ((1, 1), (1, 0), (0, 1))), (TWINS, 2, ((1, 0), (0, 1), (1, 1))), (BOTH_WAYS, 2, ((1, 0), (0, 1), (1, 1))), (POINT, 3, ((1,), (2,)))):
            for _ in range(14):
                m, n = [source.choice(kinds_of(plan, prime, source.choice(sizes))) for _ in range(2)]
                total = plus(m.sizes, n.sizes)
                first = source.choice(all_rows(*total))
                x = source.choice(kinds_of(plan, prime, first))
                y = source.choice(kinds_of(plan, prime, tuple([a - b for a, b in zip(total, first)])))
                left, right = self.four(plan, prime, m, n, x, y)
                met += left > 0
                self.assertEqual(left, right)
        self.assertGreater(met, 30)


class LineSorts(Case):

    def test_sorts(self):
        source = random.Random(14)
        for _ in range(40):
            filling = some_filling(source, LINE, source.choice((2, 3, 5, 7)), (source.randint(0, 6), source.randint(0, 6)))
            told = filling.sizes + (filling.tables[0].rank,)
            self.same(line_sort(filling), told)
            self.assertEqual(line_sort(filling.changed(some_turns(source, filling))), told)
        self.assertEqual(line_sort(Filling.zero(LINE, 2, (6, 6))), (6, 6, 0))
        self.all_refused(InvalidFilling, line_sort, NO_FILLINGS)
        for plan in (TWINS, LINE.opposite(), THREE, POINT, BARE):
            self.refuses(InvalidOperation, line_sort, Filling.zero(plan, 2, (1,) * plan.size))

    def filling(self, prime, sort):
        rows = tuple([tuple([int(a == b and a < sort[2]) for b in range(sort[0])]) for a in range(sort[1])])
        return Filling(LINE, prime, sort[:2], (Table(prime, sort[1], sort[0], rows),))

    def test_values(self):
        """Join numbers over two primes, and all line sorts up to some sizes."""
        met = 0
        for sizes in ((1, 1), (2, 1), (1, 2), (2, 2), (0, 3), (3, 1), (2, 3)):
            for inner in all_rows(*sizes):
                outer = tuple([a - b for a, b in zip(sizes, inner)])
                for ranks in itertools.product(*[range(min(row) + 1) for row in (sizes, inner, outer)]):
                    sorts = [row + (rank,) for row, rank in zip((sizes, inner, outer), ranks)]
                    found = line_join(*sorts)
                    self.assertIsInstance(found, Poly)
                    met += found.degree > 0
                    for prime in (2, 3):
                        if prime ** sum(sizes) <= 130:
                            self.assertEqual(found.at(prime), join_number(*[self.filling(prime, sort) for sort in sorts]))
        self.assertGreater(met, 20)

    def test_added_up(self):
        """Subs of some sizes of a line sort, over all ranks, counted over 5 and 7."""
        for sort, inner in (((2, 2, 1), (1, 1)), ((2, 1, 1), (1, 1)), ((1, 3, 1), (0, 2)), ((2, 2, 2), (1, 1)), ((3, 1, 0), (1, 1))):
            outer = (sort[0] - inner[0], sort[1] - inner[1])
            total = Poly(())
            for one in range(min(inner) + 1):
                for other in range(min(outer) + 1):
                    total = total.plus(line_join(sort, inner + (one,), outer + (other,)))
            for prime in (5, 7):
                self.assertEqual(total.at(prime), len(list(subs_with(self.filling(prime, sort), inner))))

    def test_edges(self):
        self.assertEqual(line_join(ZERO_SORT, ZERO_SORT, ZERO_SORT), Poly((1,)))
        self.assertEqual(line_join((6, 0, 0), (3, 0, 0), (3, 0, 0)), gauss(6, 3))
        self.assertEqual(line_join((6, 6, 6), (3, 3, 3), (3, 3, 3)), gauss(6, 3))
        self.assertEqual(line_join((6, 6, 0), (3, 3, 0), (3, 3, 0)), gauss(6, 3).times(gauss(6, 3)))
        for lot in (((1, 1, 1), (1, 1, 1), (1, 0, 0)), ((6, 6, 6), (6, 6, 6), (6, 6, 6)), (ZERO_SORT, (1, 0, 0), ZERO_SORT), ((2, 2, 0), (1, 1, 1), (1, 1, 0)), ((1, 1, 1), (1, 0, 0), (0, 1, 0)), ((2, 2, 2), (1, 1, 0), (1, 1, 0))):
            self.assertEqual(line_join(*lot), Poly(()))

    def test_errors(self):
        wrong = NO_TUPLES + OTHERS + ((1, 1), (1, 1, 1, 1), (1, 1, 2), (2, 1, 2), (7, 1, 1), (1, 7, 1), (-1, 1, 0), (1, 1, -1), (True, 1, 1), (1, 1, True), [1, 1, 1], (1, 1, None), ((1, 1), 1))
        for at in range(3):
            self.all_refused(InvalidOperation, lambda value: line_join(*[value if at == place else (1, 1, 1) for place in range(3)]), wrong)


class Parts(Case):

    def test_not_true_of_classes(self):
        """Two extensions of different classes can be alike."""
        found = middles(Filling.single(LINE, 3, 0), Filling.single(LINE, 3, 1))
        self.assertEqual(sorted([many for _, many in found]), [1, 2])
        self.assertEqual(sorted([len(parts_of(whole)) for whole, _ in found]), [1, 2])

    def test_plan_without_arrows(self):
        rest, sub = Filling.zero(BARE, 3, (1, 2)), Filling.zero(BARE, 3, (2, 1))
        self.assertEqual([(whole.sizes, many) for whole, many in middles(rest, sub)], [((3, 3), 1)])
        self.assertEqual(join_number(rest.summed(sub), sub, rest), gauss(3, 2).at(3) * gauss(3, 1).at(3))


if __name__ == "__main__":
    unittest.main()
