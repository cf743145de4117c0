"""[0.10], [0.11], [7.1] to [7.8] and what stands there: fillings."""

import random
import unittest

from arrowsizes.chart.plans import Plan
from arrowsizes.errors import (
    InvalidFilling, InvalidOperation, InvalidPlan, InvalidPoint, InvalidPrime, InvalidSizes, TooMany)
from arrowsizes.fill.fillings import (
    Filling, ext_number, hom_base, hom_number, image_of, is_hom, is_hom_base, is_sub, kernel_of, plain_spaces,
    quotient_filling, sub_filling)
from arrowsizes.grid.tables import Table, base_of, idle_table, zero_table
from tests.helpers import Case, NO_INTEGERS, NO_TUPLES, OTHERS, SIXTY_ONE
from tests.some_fillings import (
    BARE, BOTH_WAYS, PLANS, all_homs, all_space_rows, all_turns, idle, keys_of, some_filling, some_fillings, some_pairs, some_turns)
from tests.test_plans import BENT, FULL, NO_PLANS, POINT, RING, STAR, THRICE, TWINS
from tests.test_tables import NO_PRIMES, PRIMES, is_base, sums_of

LINE, ONE = Plan.line(2), Table(2, 1, 1, ((1,),))
EYE = Filling(LINE, 2, (1, 1), (ONE,))
HEAD, TAIL = Filling.single(LINE, 2, 0), Filling.single(LINE, 2, 1)
NO_FILLINGS = tuple([value for value in OTHERS if not isinstance(value, Filling)]) + (1, (LINE, 2, (1, 1), (ONE,)))
NO_SIZES = NO_TUPLES + ((), (1,), (1, 1, 1), (1, 7), (-1, 1), (True, 1), [1, 1], (1, None), (SIXTY_ONE, 1))
OF_TWO = (hom_number, ext_number, hom_base, lambda one, other: is_hom(one, other, ()), lambda one, other: is_hom_base(one, other, ()),
          lambda one, other: kernel_of(one, other, ()), lambda one, other: image_of(one, other, ()))


def rows_of(tables):
    return [table.rows for table in tables]


def sums_at(filling, spaces):
    """For each point the set of all columns of a space."""
    return [sums_of(filling.prime, size, columns) for size, columns in zip(filling.sizes, spaces)]


def is_kept(filling, spaces):
    """Whether the arrows lead all columns of the spaces into the spaces."""
    sums = sums_at(filling, spaces)
    return all([table.leading(column) in sums[goal] for (start, goal), table in zip(filling.plan.arrows, filling.tables) for column in sums[start]])


class Making(Case):

    def test_properties(self):
        tables = (Table(5, 1, 2, ((1, 4),)), Table(5, 1, 2, ((0, 3),)))
        filling = Filling(TWINS, 5, (2, 1), tables)
        for name, told in (("plan", TWINS), ("prime", 5), ("sizes", (2, 1)), ("tables", tables), ("total", 3)):
            self.same(getattr(filling, name), told)
            with self.assertRaises(AttributeError):
                setattr(filling, name, told)
        self.never_iterated(filling)

    def test_bounds(self):
        for prime in PRIMES:
            self.assertEqual(Filling(Plan(6, ()), prime, (6,) * 6, ()).total, 36)
        self.assertEqual(Filling(POINT, 2, (0,), ()).total, 0)
        self.assertEqual(Filling.zero(FULL, 7, (6, 0, 6, 0, 6, 1)).total, 19)

    def test_refused(self):
        makers = (lambda plan, prime, sizes: Filling(plan, prime, sizes, ()), Filling.zero)
        for make in makers:
            self.all_refused(InvalidPlan, lambda value: make(value, 2, (1, 1)), NO_PLANS)
            self.all_refused(InvalidPrime, lambda value: make(BARE, value, (1, 1)), NO_PRIMES)
            self.all_refused(InvalidSizes, lambda value: make(BARE, 2, value), NO_SIZES)
            self.refuses(InvalidPlan, make, None, 4, None)
            self.refuses(InvalidPrime, make, BARE, 4, None)
            self.refuses(InvalidSizes, make, BARE, 3, (1,))
        self.refuses(InvalidPlan, Filling, None, 4, None, None)
        self.refuses(InvalidSizes, Filling, BARE, 3, (1,), None)

    def test_tables_refused(self):
        right = (Table(3, 2, 1, ((1,), (2,))), zero_table(3, 2, 1))
        Filling(TWINS, 3, (1, 2), right)
        wrong = NO_TUPLES + (
            (), right[:1], right + right[:1], list(right), (right[0], None), (right[0].rows, right[1].rows), (right[0], zero_table(3, 1, 2)),
            (zero_table(3, 2, 2), right[1]), (right[0], zero_table(5, 2, 1)), (right[0], zero_table(3, 1, 1)), (right,))
        self.all_refused(InvalidFilling, lambda value: Filling(TWINS, 3, (1, 2), value), wrong)
        self.all_refused(InvalidFilling, lambda value: Filling(TWINS, 3, (2, 1), value), (right,))
        self.all_refused(InvalidFilling, lambda value: Filling(BARE, 3, (2, 1), value), (right, None, []))
        self.refuses(InvalidFilling, Filling, LINE, 2, (0, 0), (zero_table(3, 0, 0),))

    def test_zero_and_single(self):
        for plan in PLANS:
            sizes = tuple([(2 * point + 1) % 4 for point in range(plan.size)])
            filling = Filling.zero(plan, 3, sizes)
            self.assertEqual(filling, Filling(plan, 3, sizes, tuple([zero_table(3, sizes[j], sizes[i]) for i, j in plan.arrows])))
            for point in range(plan.size):
                unit = tuple([int(at == point) for at in range(plan.size)])
                self.assertEqual(Filling.single(plan, 7, point), Filling.zero(plan, 7, unit))
        self.all_refused(InvalidPlan, lambda value: Filling.single(value, 2, 0), NO_PLANS)
        self.all_refused(InvalidPrime, lambda value: Filling.single(LINE, value, 0), NO_PRIMES)
        self.all_refused(InvalidPoint, lambda value: Filling.single(LINE, 2, value), NO_INTEGERS + (-1, 2))
        self.refuses(InvalidPlan, Filling.single, None, 4, -1)
        self.refuses(InvalidPrime, Filling.single, LINE, 4, -1)

    def test_equality(self):
        one = Filling(LINE, 2, (1, 1), (Table(2, 1, 1, ((1,),)),))
        self.assertTrue(EYE == one)
        self.assertFalse(EYE != one)
        unlike = (Filling.zero(LINE, 2, (1, 1)), Filling(LINE.opposite(), 2, (1, 1), (ONE,)), Filling(LINE, 3, (1, 1), (idle_table(3, 1),)), HEAD, 1, ONE)
        for value in OTHERS + unlike:
            self.assertIs(EYE == value, False)
            self.assertIs(EYE != value, True)
        self.assertFalse(Filling.zero(BARE, 2, (1, 2)) == Filling.zero(BARE, 2, (2, 1)))
        self.assertFalse(Filling.zero(BARE, 2, (1, 2)) == Filling.zero(BARE, 3, (1, 2)))

    def test_texts(self):
        self.same(str(Filling.zero(LINE, 3, (1, 2))), "filling of (1, 2) over 3")
        self.same(str(Filling.zero(POINT, 3, (1,))), "filling of (1) over 3")
        self.same(str(Filling.zero(FULL, 7, (0, 6, 5, 4, 3, 2))), "filling of (0, 6, 5, 4, 3, 2) over 7")


class Sums(Case):

    def test_summed(self):
        for one, other in some_pairs(1, 60):
            found = one.summed(other)
            self.assertEqual(found.sizes, tuple([a + b for a, b in zip(one.sizes, other.sizes)]))
            self.assertEqual(found.tables, tuple([x.blocks(y) for x, y in zip(one.tables, other.tables)]))
            self.assertEqual((found.plan, found.prime, found.total), (one.plan, one.prime, one.total + other.total))
            zero = Filling.zero(one.plan, one.prime, (0,) * one.plan.size)
            self.assertEqual(one.summed(zero), one)
            self.assertEqual(zero.summed(one), one)

    def test_summed_refused(self):
        self.all_refused(InvalidFilling, EYE.summed, NO_FILLINGS)
        for other in (Filling.zero(LINE, 3, (1, 1)), Filling.zero(LINE.opposite(), 2, (1, 1)), Filling.zero(BARE, 2, (6, 6)), Filling.zero(POINT, 2, (1,))):
            self.refuses(InvalidOperation, EYE.summed, other)
        high = Filling.zero(LINE, 2, (3, 4))
        self.assertEqual(high.summed(Filling.zero(LINE, 2, (3, 2))).sizes, (6, 6))
        self.refuses(TooMany, high.summed, Filling.zero(LINE, 2, (4, 0)), limit=6)
        self.refuses(TooMany, high.summed, Filling.zero(LINE, 2, (0, 3)), limit=6)
        self.refuses(InvalidOperation, high.summed, Filling.zero(LINE, 3, (4, 4)))

    def test_changed(self):
        source = random.Random(2)
        for filling in some_fillings(3, 60):
            turns = some_turns(source, filling)
            found = filling.changed(turns)
            self.assertEqual((found.plan, found.prime, found.sizes), (filling.plan, filling.prime, filling.sizes))
            for (i, j), x, y in zip(filling.plan.arrows, filling.tables, found.tables):
                self.assertEqual(y.times(turns[i]), turns[j].times(x))
            self.assertIs(is_hom(filling, found, turns), True)
            self.assertEqual(filling.changed(idle(filling)), filling)
            self.assertEqual(found.changed(tuple([turn.undone() for turn in turns])), filling)

    def test_changed_refused(self):
        filling = Filling.zero(LINE, 3, (1, 2))
        one, two = idle_table(3, 1), idle_table(3, 2)
        filling.changed((one, two))
        wrong = NO_TUPLES + ((), (one,), (two, one), (one, two, one), [one, two], (one, None), (one, zero_table(3, 2, 2)), (idle_table(5, 1), idle_table(5, 2)),
                             (one, Table(3, 2, 2, ((1, 2), (2, 1)))), (one, zero_table(3, 2, 1)), (one.rows, two.rows))
        self.all_refused(InvalidFilling, filling.changed, wrong)

    def test_turned_over(self):
        for filling in some_fillings(4, 40):
            found = filling.turned_over()
            self.assertEqual((found.plan, found.sizes, found.prime), (filling.plan.opposite(), filling.sizes, filling.prime))
            self.assertEqual(found.tables, tuple([table.swapped() for table in filling.tables]))
            self.assertEqual(found.turned_over(), filling)
        for one, other in some_pairs(5, 40):
            for hom in hom_base(one, other):
                self.assertIs(is_hom(other.turned_over(), one.turned_over(), tuple([table.swapped() for table in hom])), True)
            self.assertEqual(hom_number(one, other), hom_number(other.turned_over(), one.turned_over()))
            self.assertEqual(ext_number(one, other), ext_number(other.turned_over(), one.turned_over()))


class Homs(Case):

    def test_among_all_tables(self):
        small = [pair for pair in some_pairs(6, 700, most=2, total=3) if pair[0].prime ** sum([a * b for a, b in zip(pair[0].sizes, pair[1].sizes)]) <= 300]
        self.assertGreater(len(small), 100)
        for one, other in small:
            homs = all_homs(one, other)
            self.assertEqual(len(homs), one.prime ** hom_number(one, other))
            base = hom_base(one, other)
            self.assertEqual(len(base), hom_number(one, other))
            sums = [tuple([zero_table(one.prime, high, wide) for high, wide in zip(other.sizes, one.sizes)])]
            for hom in base:
                sums = [tuple([a.plus(b.scaled(k)) for a, b in zip(told, hom)]) for told in sums for k in range(one.prime)]
            self.assertEqual(keys_of(sums), keys_of(homs))
            for hom in homs:
                self.assertIs(is_hom(one, other, hom), True)

    def test_is_hom(self):
        """Tuples of tables are homs just if they are among all homs."""
        one, other = Filling(LINE, 2, (1, 2), (Table(2, 2, 1, ((1,), (0,))),)), Filling(LINE, 2, (2, 1), (Table(2, 1, 2, ((1, 1),)),))
        homs, tried = keys_of(all_homs(one, other)), 0
        flat = Filling.zero(LINE, 2, (1, 2)), Filling.zero(LINE, 2, (2, 1))
        for tables in all_homs(*flat):
            tried += 1
            self.assertIs(is_hom(one, other, tables), tuple(rows_of(tables)) in homs)
        self.assertEqual((tried, 2 ** hom_number(one, other)), (16, len(homs)))

    def test_is_hom_of_any_value(self):
        self.assertIs(is_hom(EYE, EYE, (ONE, ONE)), True)
        wrong = NO_TUPLES + OTHERS + ((), (ONE,), (ONE, ONE, ONE), [ONE, ONE], (ONE, None), (ONE, zero_table(2, 1, 1)), (ONE, idle_table(3, 1)),
                                      (ONE, zero_table(2, 1, 2)), (((1,),), ((1,),)), (True, True), ((ONE, ONE),), (idle_table(3, 1), idle_table(3, 1)))
        for value in wrong:
            self.assertIs(is_hom(EYE, EYE, value), False)
        none = Filling.zero(LINE, 2, (0, 0))
        self.assertIs(is_hom(none, EYE, (zero_table(2, 1, 0), zero_table(2, 1, 0))), True)
        self.assertIs(is_hom(none, EYE, (zero_table(2, 0, 1), zero_table(2, 0, 1))), False)
        self.assertIs(is_hom(none, none, ()), False)

    def test_numbers(self):
        for one, other in some_pairs(7, 150) + some_pairs(8, 4, most=6, total=36):
            hom, ext = hom_number(one, other), ext_number(one, other)
            self.same(hom - ext, one.plan.form(one.sizes, other.sizes))
            self.assertGreaterEqual(min(hom, ext), 0)
            self.assertEqual(len(hom_base(one, other)), hom)
            self.assertEqual(hom_number(one.summed(other) if max(one.sizes + other.sizes) <= 3 else one, one),
                             hom_number(one, one) + (hom_number(other, one) if max(one.sizes + other.sizes) <= 3 else 0))

    def test_ext_by_rows(self):
        """The ext number is told by all rows f_j * x - y * f_i, for all tables f_i."""
        tried = 0
        for one, other in some_pairs(9, 250, most=2, total=3):
            many = sum([a * b for a, b in zip(one.sizes, other.sizes)])
            if one.prime ** many > 300:
                continue
            zero = Filling.zero(one.plan, one.prime, one.sizes), Filling.zero(one.plan, one.prime, other.sizes)
            made = set()
            for tables in all_homs(*zero):
                made.add(tuple([tables[j].times(x).minus(y.times(tables[i])).rows for (i, j), x, y in zip(one.plan.arrows, one.tables, other.tables)]))
            height = sum([one.sizes[i] * other.sizes[j] for i, j in one.plan.arrows])
            self.assertEqual(len(made) * one.prime ** ext_number(one, other), one.prime ** height)
            tried += 1
        self.assertGreater(tried, 50)

    def test_numbers_of_alike_ones_and_sums(self):
        source = random.Random(10)
        for one, other in some_pairs(11, 60):
            third = some_filling(source, one.plan, one.prime, tuple([source.randint(0, 2) for _ in one.sizes]))
            for number in (hom_number, ext_number):
                self.assertEqual(number(one.changed(some_turns(source, one)), other), number(one, other))
                self.assertEqual(number(one, other.changed(some_turns(source, other))), number(one, other))
                self.assertEqual(number(one.summed(third), other), number(one, other) + number(third, other))
                self.assertEqual(number(one, other.summed(third)), number(one, other) + number(one, third))

    def test_homs_behind_homs(self):
        source = random.Random(12)
        for one, other in some_pairs(13, 60):
            third = some_filling(source, one.plan, one.prime, tuple([source.randint(0, 2) for _ in one.sizes]))
            for first in hom_base(one, other):
                for second in hom_base(other, third):
                    self.assertIs(is_hom(one, third, tuple([b.times(a) for a, b in zip(first, second)])), True)

    def test_is_hom_base(self):
        for one, other in some_pairs(14, 80):
            base = hom_base(one, other)
            self.assertIs(is_hom_base(one, other, base), True)
            self.assertIs(is_hom_base(one, other, base[::-1]), True)
            self.assertIs(is_hom_base(one, other, list(base)), False)
            if base:
                twice = tuple([a.plus(b) for a, b in zip(base[0], base[-1])])
                self.assertIs(is_hom_base(one, other, base[1:]), False)
                self.assertIs(is_hom_base(one, other, base + base[:1]), False)
                self.assertIs(is_hom_base(one, other, (base[-1],) * len(base)), len(base) == 1)
                self.assertIs(is_hom_base(one, other, base[1:] + (twice,)), len(base) > 1 or one.prime > 2)
        wrong = NO_TUPLES + OTHERS[:-1] + (((ONE, zero_table(2, 1, 1)),), (None,), ((ONE,),), ([ONE, ONE],), (ONE, ONE))
        for value in wrong:
            self.assertIs(is_hom_base(EYE, EYE, value), False)
        self.assertIs(is_hom_base(EYE, TAIL, ()), True)

    def test_pairs_refused(self):
        three = Filling.zero(LINE, 3, (1, 1))
        for call in OF_TWO:
            self.all_refused(InvalidFilling, lambda value: call(value, EYE), NO_FILLINGS)
            self.all_refused(InvalidFilling, lambda value: call(EYE, value), NO_FILLINGS)
            self.refuses(InvalidOperation, call, EYE, three)
            self.refuses(InvalidOperation, call, EYE, Filling.zero(LINE.opposite(), 2, (1, 1)))
            self.refuses(InvalidOperation, call, EYE, Filling.zero(POINT, 2, (1,)))
            self.refuses(InvalidFilling, call, three, None)

    def test_not_told_by_sizes(self):
        """Fillings of equal sizes with equal hom numbers to themselves that no turns lead to one another."""
        plan = Plan(3, ((0, 1), (1, 2)))
        one = Filling(plan, 2, (1, 1, 1), (ONE, zero_table(2, 1, 1)))
        other = Filling(plan, 2, (1, 1, 1), (zero_table(2, 1, 1), ONE))
        self.assertEqual(hom_number(one, one), hom_number(other, other))
        self.assertFalse([turns for turns in all_turns(2, (1, 1, 1)) if one.changed(turns) == other])
        flat = HEAD.summed(TAIL)
        self.assertEqual((ext_number(EYE, EYE), ext_number(flat, flat)), (0, 1))


class Spaces(Case):

    def small(self, seed, many=60):
        fits = [filling for filling in some_fillings(seed, 600, most=2, total=4) if filling.prime ** max(filling.sizes) <= 9]
        return fits[:many]

    def test_subs_among_all_spaces(self):
        for filling in self.small(15):
            for spaces in all_space_rows(filling):
                self.assertIs(is_sub(filling, spaces), is_kept(filling, spaces))
                plain = plain_spaces(filling, spaces)
                self.assertEqual(plain, tuple([base_of(filling.prime, size, columns) for size, columns in zip(filling.sizes, spaces)]))
                self.assertTrue(all([is_base(columns) for columns in plain]))
                self.assertEqual(sums_at(filling, plain), sums_at(filling, spaces))

    def test_sub_and_quotient(self):
        """Both are fillings as [7.4] tells them, by homs into and out of the filling."""
        met = 0
        for filling in self.small(16, 40):
            for spaces in all_space_rows(filling):
                if not is_kept(filling, spaces):
                    self.refuses(InvalidOperation, sub_filling, filling, spaces)
                    self.refuses(InvalidOperation, quotient_filling, filling, spaces)
                    continue
                met += 1
                plain = plain_spaces(filling, spaces)
                sub, rest = sub_filling(filling, spaces), quotient_filling(filling, spaces)
                self.assertEqual((sub, rest), (sub_filling(filling, plain), quotient_filling(filling, plain)))
                self.assertEqual(sub.sizes, tuple([len(columns) for columns in spaces]))
                self.assertEqual([a + b for a, b in zip(sub.sizes, rest.sizes)], list(filling.sizes))
                into = [Table(filling.prime, len(columns), size, columns).swapped() for size, columns in zip(filling.sizes, plain)]
                self.assertIs(is_hom(sub, filling, tuple(into)), True)
                onto = tuple([self.onto(filling.prime, size, columns) for size, columns in zip(filling.sizes, plain)])
                self.assertIs(is_hom(filling, rest, onto), True)
                self.assertEqual(kernel_of(filling, rest, onto), plain)
                self.assertEqual(image_of(sub, filling, tuple(into)), plain)
        self.assertGreater(met, 200)

    def onto(self, prime, size, base):
        """The table that leads a column to its coordinates behind a space, at the indices without a lead."""
        leads = [[at for at, residue in enumerate(column) if residue][0] for column in base]
        rows = []
        for at in range(size):
            if at not in leads:
                row = [int(at == other) for other in range(size)]
                for lead, column in zip(leads, base):
                    row[lead] = -column[at] % prime
                rows.append(tuple(row))
        return Table(prime, size - len(base), size, tuple(rows))

    def test_spaces_that_are_not_plain(self):
        filling = Filling(LINE, 3, (2, 2), (Table(3, 2, 2, ((1, 1), (0, 0))),))
        spaces = (((2, 0), (1, 1)), ((2, 0),))
        self.assertEqual(plain_spaces(filling, spaces), (((1, 0), (0, 1)), ((1, 0),)))
        self.assertIs(is_sub(filling, spaces), True)
        self.assertEqual(sub_filling(filling, spaces), Filling(LINE, 3, (2, 1), (Table(3, 1, 2, ((1, 1),)),)))
        self.assertEqual(quotient_filling(filling, spaces), Filling(LINE, 3, (0, 1), (zero_table(3, 1, 0),)))

    def test_wrong_spaces(self):
        filling = Filling.zero(LINE, 3, (2, 1))
        right = (((1, 0),), ((2,),))
        self.assertIs(is_sub(filling, right), True)
        wrong = NO_TUPLES + OTHERS + (
            (), right[:1], right + right[:1], list(right), (((1, 0),), [(2,)]), (((1, 0),), ([2],)), (((1, 0),), ((3,),)), (((1, 0),), ((-1,),)),
            (((1, 0),), ((True,),)), (((1, 0),), ((0,),)), (((1, 0), (2, 0)), ((2,),)), (((1, 0), (1, 0)), ()), (((0, 0),), ()), (((1,),), ((2,),)),
            (((1, 0),), ((1, 0),)), (((1, 0),), (1,)), (((1, 0),), None), (((1, 0), (0, 1), (1, 1)), ()), (((1, 0),), ((SIXTY_ONE,),)), (((1, 0),), (("1",),)))
        for value in wrong:
            self.assertIs(is_sub(filling, value), False)
        for call in (plain_spaces, sub_filling, quotient_filling):
            self.all_refused(InvalidOperation, lambda value: call(filling, value), wrong)
            self.all_refused(InvalidFilling, lambda value: call(value, right), NO_FILLINGS)
            self.refuses(InvalidFilling, call, None, None)
        self.all_refused(InvalidFilling, lambda value: is_sub(value, right), NO_FILLINGS)
        none = Filling.zero(LINE, 3, (0, 1))
        self.assertIs(is_sub(none, ((), ())), True)
        self.assertIs(is_sub(none, (((),), ())), False)
        self.assertEqual(plain_spaces(EYE, (((1,),), ())), (((1,),), ()))
        self.refuses(InvalidOperation, sub_filling, EYE, (((1,),), ()))

    def test_kernels_and_images(self):
        for one, other in some_pairs(17, 120):
            for hom in hom_base(one, other):
                kernel, image = kernel_of(one, other, hom), image_of(one, other, hom)
                self.assertEqual(kernel, tuple([table.kernel() for table in hom]))
                self.assertEqual(image, tuple([table.image() for table in hom]))
                self.assertIs(is_sub(one, kernel), True)
                self.assertIs(is_sub(other, image), True)
                rest, sub = quotient_filling(one, kernel), sub_filling(other, image)
                self.assertEqual((rest.sizes, hom_number(rest, rest)), (sub.sizes, hom_number(sub, sub)))

    def test_quotient_by_kernel_is_alike_to_image(self):
        found = 0
        for one, other in some_pairs(18, 500, most=2, total=6):
            for hom in hom_base(one, other):
                rest, sub = quotient_filling(one, kernel_of(one, other, hom)), sub_filling(other, image_of(one, other, hom))
                if max(rest.sizes) <= 1 or (max(rest.sizes) == 2 and one.prime == 2):
                    turns = all_turns(one.prime, rest.sizes)
                    self.assertTrue([told for told in turns if rest.changed(told) == sub])
                    found += rest.total > 1
        self.assertGreater(found, 10)

    def test_homs_refused(self):
        for call in (kernel_of, image_of):
            for value in NO_TUPLES + ((), (ONE,), (ONE, zero_table(2, 1, 1)), [ONE, ONE], (ONE, None)):
                self.refuses(InvalidOperation, call, EYE, EYE, value)
            self.assertEqual(call(EYE, EYE, (ONE, ONE)), ((), ()) if call is kernel_of else (((1,),), ((1,),)))
            self.refuses(InvalidFilling, call, EYE, None, None)

    def test_plans_of_all_kinds(self):
        for plan in (FULL, RING, BOTH_WAYS, STAR, THRICE, BENT, POINT, BARE):
            filling = Filling.zero(plan, 2, (1,) * plan.size)
            self.assertEqual(hom_number(filling, filling), plan.size)
            self.assertEqual(ext_number(filling, filling), len(plan.arrows))
            self.assertIs(is_sub(filling, (((1,),),) + ((),) * (plan.size - 1)), True)


if __name__ == "__main__":
    unittest.main()
