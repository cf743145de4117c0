"""[0.11], [8.1] to [8.6] and what stands there: splitting."""

import itertools
import math
import random
import unittest

from arrowsizes.chart.plans import Plan
from arrowsizes.errors import InvalidFilling, InvalidOperation, TooMany
from arrowsizes.fill.fillings import Filling, hom_base, hom_number, is_hom, is_sub, plain_spaces, sub_filling
from arrowsizes.fill.homs import hom_maps
from arrowsizes.grid.columns import rank_of
from arrowsizes.grid.tables import Table, idle_table, zero_table
from arrowsizes.split import splits as module
from arrowsizes.split.local import simple_part, split_or_degree
from arrowsizes.split.maps import are_turns, combined_maps, is_nilpotent
from arrowsizes.split.splits import (
    any_likeness, are_alike, field_degree, halves_of, idempotent_of, is_firm, is_idempotent, is_likeness, is_parts,
    is_unsplittable, part_sizes, parts_of, times_in)
from tests.helpers import Case, NO_TUPLES, OTHERS
from tests.some_fillings import (
    BARE, BOTH_WAYS, FIELDS, all_fillings, all_homs, all_turns, idle, round_filling, some_filling, some_fillings, some_sizes, some_turns)
from tests.test_fillings import EYE, HEAD, LINE, NO_FILLINGS, ONE, TAIL
from tests.test_plans import BENT, FULL, POINT, RING, STAR, THRICE, TWINS

# Small lots of fillings that are gone through as a whole.
LOTS = ((TWINS, 2, (2, 2)), (TWINS, 2, (1, 2)), (TWINS, 3, (1, 1)), (BOTH_WAYS, 2, (2, 2)), (RING, 2, (1, 1, 2)), (BENT, 2, (1, 2, 1)), (STAR, 2, (2, 1, 1, 1)),
        (LINE, 3, (2, 1)), (THRICE, 2, (1, 2)), (BARE, 2, (1, 1)), (POINT, 3, (2,)), (POINT, 5, (1,)))
OF_ONE = (is_unsplittable, field_degree, is_firm, idempotent_of, lambda value: is_idempotent(value, ()), parts_of, lambda value: is_parts(value, ()), part_sizes,
          lambda value: is_idempotent(value, None), lambda value: is_parts(value, None), lambda value: is_parts(value, (EYE,)))
OF_TWO = (times_in, are_alike, any_likeness, lambda one, other: is_likeness(one, other, ()))


def zeros(filling):
    return tuple([zero_table(filling.prime, size, size) for size in filling.sizes])


def product(one, other):
    return tuple([a.times(b) for a, b in zip(one, other)])


def plus(one, other):
    return tuple([a.plus(b) for a, b in zip(one, other)])


def minus(one, other):
    return tuple([a.minus(b) for a, b in zip(one, other)])


def power(maps, many):
    found = maps
    for _ in range(many - 1):
        found = product(found, maps)
    return found


def dies(maps):
    return all([not any([any(row) for row in table.rows]) for table in power(maps, 6)])


def degree_by_all(filling):
    """The field degree by all endomorphisms, one by one; 0 if the filling is not unsplittable."""
    dying = 0
    for hom in all_homs(filling, filling):
        if dies(hom):
            dying += 1
        elif not all([table.is_turn for table in hom]):
            return 0
    if filling.total == 0:
        return 0
    degree, size = 0, filling.prime ** hom_number(filling, filling) // dying
    while filling.prime ** degree < size:
        degree += 1
    return degree


def orbits(fillings, prime, sizes):
    """Lots of alike fillings, by all turns."""
    left, found = list(fillings), []
    turns = all_turns(prime, sizes)
    while left:
        lot = [left[0].changed(told) for told in turns]
        found.append([filling for filling in left if filling in lot])
        left = [filling for filling in left if filling not in lot]
    return found


def sum_of(lot):
    found = Filling.zero(lot[0].plan, lot[0].prime, (0,) * lot[0].plan.size)
    for filling in lot:
        found = found.summed(filling)
    return found


def block_lots(seed, many):
    """Triples of a prime, a lot of pairs (numbers, blocks), and the changed sum of their fillings of twins."""
    source, found = random.Random(seed), []
    for _ in range(many):
        prime = source.choice((2, 2, 3, 5, 7))
        options = [(numbers, blocks) for numbers in FIELDS[prime] + ((0,), (prime - 1,)) for blocks in range(1, 4)]
        lot, left = [], 6
        while left and (not lot or source.random() < 0.7):
            numbers, blocks = source.choice([told for told in options if len(told[0]) * told[1] <= left])
            for _ in range(source.randint(1, left // (len(numbers) * blocks))):
                lot.append((numbers, blocks))
                left -= len(numbers) * blocks
        whole = sum_of([round_filling(prime, *told) for told in lot])
        found.append((prime, lot, whole.changed(some_turns(source, whole))))
    return found


class Unsplittable(Case):

    def test_constant(self):
        self.same(module.MAX_SPLIT, 12)

    def test_by_all_endomorphisms(self):
        degrees = []
        for plan, prime, sizes in LOTS:
            for filling in all_fillings(plan, prime, sizes)[:160]:
                degree = degree_by_all(filling)
                degrees.append(degree)
                self.assertIs(is_unsplittable(filling), degree > 0)
                self.assertIs(is_firm(filling), degree == 1)
                if degree:
                    self.same(field_degree(filling), degree)
                else:
                    self.refuses(InvalidOperation, field_degree, filling)
        self.assertEqual(sorted(set(degrees)), [0, 1, 2])

    def test_field_degrees(self):
        for prime, lots in FIELDS.items():
            for numbers in lots:
                for many in range(1, 6 // len(numbers) + 1):
                    filling = round_filling(prime, numbers, many)
                    self.assertEqual((field_degree(filling), is_unsplittable(filling), is_firm(filling)), (len(numbers), True, False))
                    self.assertEqual(part_sizes(filling), ((filling.sizes, len(numbers)),))
        self.assertEqual(field_degree(round_filling(2, (1, 1, 0, 0, 0, 0))), 6)
        self.assertTrue(is_firm(round_filling(7, (3,), 6)))

    def test_degree_divides_sizes(self):
        for filling in some_fillings(1, 120, most=6, total=12):
            for sizes, degree in part_sizes(filling):
                self.assertTrue(all([size % degree == 0 for size in sizes]))

    def test_zeros(self):
        for plan in (POINT, TWINS, FULL, BARE):
            none = Filling.zero(plan, 3, (0,) * plan.size)
            self.assertEqual((is_unsplittable(none), is_firm(none), idempotent_of(none), parts_of(none), part_sizes(none)), (False, False, None, (), ()))
            self.refuses(InvalidOperation, field_degree, none)
            self.assertIs(is_parts(none, ()), True)
            self.assertIs(is_idempotent(none, zeros(none)), False)
            self.assertIs(are_alike(none, none), True)
            self.assertIs(is_likeness(none, none, any_likeness(none, none)), True)
            self.assertEqual(times_in(Filling.single(plan, 3, 0), none), 0)
            self.refuses(InvalidOperation, times_in, none, none)

    def test_what_is_not_true(self):
        """Commuting endomorphisms, unlike fillings with the same part sizes, and endomorphisms beside multiples."""
        split = Filling.zero(LINE, 2, (1, 1))
        homs = hom_base(split, split)
        self.assertTrue(all([product(a, b) == product(b, a) for a in homs for b in homs]))
        self.assertIs(is_unsplittable(split), False)
        one, other = round_filling(3, (1,)), round_filling(3, (2,))
        self.assertEqual((part_sizes(one), are_alike(one, other)), (part_sizes(other), False))
        large = round_filling(2, (1, 1))
        self.assertTrue(is_unsplittable(large))
        self.assertTrue([hom for hom in all_homs(large, large) if not dies(hom) and hom != idle(large)])


class Idempotents(Case):

    def test_among_all(self):
        for plan, prime, sizes in LOTS:
            for filling in all_fillings(plan, prime, sizes)[:60]:
                homs = all_homs(filling, filling)
                proper = [hom for hom in homs if product(hom, hom) == hom and hom not in (idle(filling), zeros(filling))]
                for hom in homs:
                    self.assertIs(is_idempotent(filling, hom), hom in proper)
                found = idempotent_of(filling)
                self.assertIs(found is None, not proper)
                self.assertIs(found is None, len(parts_of(filling)) < 2)
                self.assertTrue(found is None or found in proper)

    def test_found_ones_are_judged(self):
        for filling in some_fillings(2, 100, most=6, total=12):
            found = idempotent_of(filling)
            self.assertIs(found is None, len(part_sizes(filling)) < 2)
            if found is not None:
                self.assertIs(is_hom(filling, filling, found), True)
                self.assertIs(is_idempotent(filling, found), True)
                self.assertIs(is_idempotent(filling, minus(idle(filling), found)), True)
                self.check_halves(filling, found)

    def check_halves(self, filling, idempotent):
        image, rest = halves_of(filling, idempotent)
        self.assertEqual(image, tuple([table.image() for table in idempotent]))
        self.assertEqual(rest, tuple([table.image() for table in minus(idle(filling), idempotent)]))
        for half in (image, rest):
            self.assertIs(is_sub(filling, half), True)
            self.assertEqual(plain_spaces(filling, half), half)
        self.assertIs(are_alike(filling, sub_filling(filling, image).summed(sub_filling(filling, rest))), True)

    def test_halves_of_all(self):
        for plan, prime, sizes in LOTS[3:8]:
            for filling in all_fillings(plan, prime, sizes)[:12]:
                for hom in all_homs(filling, filling):
                    if product(hom, hom) == hom:
                        self.check_halves(filling, hom)
                    else:
                        self.refuses(InvalidOperation, halves_of, filling, hom)

    def test_wrong_idempotents(self):
        flat = HEAD.summed(TAIL)
        right = (ONE, zero_table(2, 1, 1))
        self.assertIs(is_idempotent(flat, right), True)
        self.assertEqual(halves_of(flat, right), ((((1,),), ()), ((), ((1,),))))
        self.assertEqual(halves_of(flat, (ONE, ONE)), ((((1,),), ((1,),)), ((), ())))
        wrong = NO_TUPLES + OTHERS + ((), (ONE,), list(right), right + (ONE,), (ONE, None), (ONE, idle_table(3, 1)), (ONE, zero_table(2, 1, 2)), (((1,),), ((0,),)))
        for value in wrong:
            self.assertIs(is_idempotent(flat, value), False)
        self.all_refused(InvalidOperation, lambda value: halves_of(flat, value), wrong)
        self.all_refused(InvalidFilling, lambda value: halves_of(value, right), NO_FILLINGS)
        self.assertIs(is_idempotent(EYE, right), False)
        self.refuses(InvalidOperation, halves_of, EYE, right)
        twice = (Table(5, 1, 1, ((2,),)),)
        self.refuses(InvalidOperation, halves_of, Filling.zero(POINT, 5, (1,)), twice)
        self.refuses(InvalidFilling, halves_of, None, None)


class Parts(Case):

    def test_parts_added_up(self):
        source = random.Random(3)
        for filling in some_fillings(4, 80, most=6, total=12):
            parts = parts_of(filling)
            self.assertTrue(all([is_unsplittable(part) for part in parts]))
            self.assertEqual(part_sizes(filling), tuple(sorted([(part.sizes, field_degree(part)) for part in parts])))
            if not parts:
                continue
            whole = sum_of(parts)
            self.assertEqual(whole.sizes, filling.sizes)
            self.assertIs(are_alike(filling, whole), True)
            self.assertIs(is_likeness(whole, filling, any_likeness(whole, filling)), True)
            turned = filling.changed(some_turns(source, filling))
            self.assertIs(is_parts(turned, parts), True)
            self.assertIs(is_parts(filling, parts[::-1]), True)
            self.assertEqual(part_sizes(turned), part_sizes(filling))
            other = tuple([part.changed(some_turns(source, part)) for part in parts])
            self.assertIs(is_parts(filling, other), True)

    def test_known_blocks(self):
        for prime, lot, whole in block_lots(5, 16):
            told = [((len(numbers) * many,) * 2, len(numbers)) for numbers, many in lot]
            self.assertEqual(part_sizes(whole), tuple(sorted(told)))
            self.assertIs(is_parts(whole, tuple([round_filling(prime, *block) for block in lot])), True)
            for block in FIELDS[prime] + ((0,), (1,)):
                for many in range(1, 3):
                    if len(block) * many <= 6:
                        self.assertEqual(times_in(round_filling(prime, block, many), whole), lot.count((block, many)))

    def test_firm_blocks_by_ranks(self):
        """How often a firm filling stands is a rank of numbers, as [8.4] tells it."""
        for filling in some_fillings(6, 80, most=3, total=8):
            for part in parts_of(filling):
                if not is_firm(part):
                    continue
                point = [at for at, size in enumerate(part.sizes) if size][0]
                rows = []
                for g in hom_base(filling, part):
                    row = []
                    for f in hom_base(part, filling):
                        steady = power(product(g, f), 7 ** 2 if part.prime == 7 else {2: 8, 3: 9, 5: 25}[part.prime])
                        row.append(steady[point].rows[0][0])
                    rows.append(tuple(row))
                self.assertEqual(times_in(part, filling), rank_of(part.prime, rows))

    def test_number_of_times(self):
        for one, other in zip(some_fillings(7, 60, most=2, total=5, plans=(TWINS,)), some_fillings(8, 60, most=2, total=5, plans=(TWINS,))):
            other = Filling(TWINS, one.prime, other.sizes, tuple([Table(one.prime, table.height, table.width, tuple([tuple([k % one.prime for k in row]) for row in table.rows])) for table in other.tables]))
            for part in parts_of(one):
                told = len([third for third in parts_of(other) if are_alike(third, part)])
                self.assertEqual(times_in(part, other), told)
                self.assertEqual(times_in(part, one.summed(other)), told + times_in(part, one))

    def test_is_parts_of_any_value(self):
        twice = EYE.summed(HEAD)
        self.assertIs(is_parts(twice, (EYE, HEAD)), True)
        self.assertIs(is_parts(twice, (HEAD, EYE)), True)
        large = Filling.zero(LINE, 2, (6, 6))
        wrong = NO_TUPLES + OTHERS + (
            (), (EYE,), (EYE, EYE), [EYE, HEAD], (EYE, HEAD, HEAD), (twice,), (EYE, TAIL), (HEAD, HEAD, TAIL), (EYE, None), (EYE, HEAD.turned_over()), (large, large),
            (EYE, Filling.single(LINE, 3, 0)), (EYE, HEAD, Filling.zero(LINE, 2, (0, 0))), (EYE, Filling.single(BARE, 2, 0)), (Filling.zero(LINE, 2, (2, 1)),))
        for value in wrong:
            self.assertIs(is_parts(twice, value), False)
        self.assertIs(is_parts(EYE, (EYE,)), True)
        self.assertIs(is_parts(EYE, (HEAD, TAIL)), False)
        self.assertIs(is_parts(HEAD.summed(TAIL), (EYE,)), False)

    def test_total_of_twelve(self):
        twelve = Filling.zero(Plan.line(3), 7, (6, 0, 6))
        beyond = Filling.zero(Plan.line(3), 7, (6, 1, 6))
        self.assertEqual(len(parts_of(twelve)), 12)
        self.assertEqual(times_in(Filling.single(Plan.line(3), 7, 0), twelve), 6)
        for call in OF_ONE:
            if call is not field_degree:
                call(twelve)
            self.all_refused(InvalidFilling, call, NO_FILLINGS)
            self.refuses(TooMany, call, beyond, limit=12)
        self.refuses(InvalidOperation, field_degree, twelve)
        self.refuses(TooMany, halves_of, beyond, idle(beyond), limit=12)
        self.refuses(InvalidOperation, halves_of, beyond, idle(twelve))
        for call in OF_TWO:
            if call is not times_in:
                call(twelve, twelve)
            self.refuses(TooMany, call, twelve, beyond, limit=12)
            self.refuses(TooMany, call, beyond, twelve, limit=12)
            self.refuses(InvalidOperation, call, beyond, Filling.zero(Plan.line(3), 5, (6, 1, 6)))
        self.refuses(InvalidOperation, times_in, twelve, twelve)

    def test_pairs_refused(self):
        for call in OF_TWO:
            self.all_refused(InvalidFilling, lambda value: call(value, EYE), NO_FILLINGS)
            self.all_refused(InvalidFilling, lambda value: call(EYE, value), NO_FILLINGS)
            self.refuses(InvalidOperation, call, EYE, Filling.single(LINE, 3, 0))
            self.refuses(InvalidOperation, call, HEAD.summed(TAIL), Filling.single(LINE.opposite(), 2, 0))
            self.refuses(InvalidFilling, call, Filling.single(LINE, 3, 0), None)
        self.refuses(InvalidOperation, times_in, HEAD.summed(TAIL), EYE)


class Likenesses(Case):

    def test_alike_by_all_turns(self):
        for plan, prime, sizes in LOTS:
            lots = orbits(all_fillings(plan, prime, sizes)[:40], prime, sizes)
            firsts = [lot[0] for lot in lots]
            for a, b in itertools.product(range(len(lots)), repeat=2):
                self.assertIs(are_alike(firsts[a], lots[b][-1]), a == b)
                found = any_likeness(firsts[a], lots[b][-1])
                if a == b:
                    self.assertEqual(firsts[a].changed(found), lots[b][-1])
                    self.assertIs(is_likeness(firsts[a], lots[b][-1], found), True)
                else:
                    self.assertIsNone(found)

    def test_changed_ones(self):
        source = random.Random(9)
        for filling in some_fillings(10, 100, most=6, total=12):
            turns = some_turns(source, filling)
            other = filling.changed(turns)
            self.assertIs(are_alike(filling, other), True)
            self.assertIs(is_likeness(filling, other, turns), True)
            self.assertEqual(filling.changed(any_likeness(filling, other)), other)
            self.assertIs(is_likeness(filling, other, [table for table in turns]), False)

    def test_unlike_sizes(self):
        self.assertIs(are_alike(HEAD, TAIL), False)
        self.assertIsNone(any_likeness(HEAD, TAIL))
        self.assertIs(is_likeness(HEAD, TAIL, ()), False)
        self.assertIs(are_alike(HEAD, EYE), False)
        self.assertIsNone(any_likeness(Filling.zero(LINE, 2, (0, 0)), EYE))

    def test_unlike_sequences_of_parts(self):
        for prime, lot, whole in block_lots(11, 25):
            blocks = [round_filling(prime, *told) for told in lot]
            self.assertEqual(whole, whole.changed(idle(whole)))
            for other in itertools.islice(itertools.permutations(blocks), 4):
                found = any_likeness(sum_of(other), whole)
                self.assertEqual(sum_of(other).changed(found), whole)

    def test_is_likeness_of_any_value(self):
        for value in NO_TUPLES + OTHERS + ((), (ONE,), [ONE, ONE], (ONE, zero_table(2, 1, 1)), (zero_table(2, 1, 1),) * 2, (ONE, None), (ONE, idle_table(3, 1))):
            self.assertIs(is_likeness(EYE, EYE, value), False)
        self.assertIs(is_likeness(EYE, EYE, (ONE, ONE)), True)


class Endomorphisms(Case):
    """The search for split endomorphisms, with bases that are not at hand otherwise."""

    def mixed(self, source, filling):
        """The endomorphisms of another base."""
        lot, prime = hom_maps(filling, filling), filling.prime
        while True:
            rows = [tuple([source.randrange(prime) for _ in lot]) for _ in lot]
            if rank_of(prime, rows) == len(lot):
                return [combined_maps(prime, row, lot) for row in rows]

    def test_any_base_tells_the_same(self):
        source = random.Random(12)
        for prime, lot, whole in block_lots(13, 90):
            split, degree = split_or_degree(prime, self.mixed(source, whole))
            if len(lot) == 1:
                self.assertEqual((split, degree), (None, len(lot[0][0])))
            else:
                self.assertEqual(degree, 0)
                self.assertFalse(is_nilpotent(prime, split) or are_turns(prime, split))
                tables = tuple([Table(prime, len(rows), len(rows), rows) for rows in split])
                self.assertIs(is_hom(whole, whole, tables), True)

    def test_bases_of_fields_alone(self):
        """All tables of two by two modulo 3 have a base of which each member makes a field: no member tells that they split."""
        filling = Filling.zero(POINT, 3, (2,))
        tables = [hom[0] for hom in all_homs(filling, filling)]
        fields = [table for table in tables if simple_part(3, (table.rows,))[1] == 2]
        self.assertEqual(len(fields), 18)
        lots = [lot for lot in itertools.combinations(fields, 3)
                if rank_of(3, [(1, 0, 0, 1)] + [table.rows[0] + table.rows[1] for table in lot]) == 4]
        self.assertGreater(len(lots), 50)
        for lot in lots:
            split, degree = split_or_degree(3, [(((1, 0), (0, 1)),)] + [(table.rows,) for table in lot])
            self.assertEqual(degree, 0)
            self.assertFalse(is_nilpotent(3, split) or are_turns(3, split))

    def test_all_bases(self):
        """Each base of all tables of two by two modulo 2 tells that they split, also if no member does."""
        tables = [tuple([rows[:2], rows[2:]]) for rows in itertools.product(range(2), repeat=4) if any(rows)]
        lots = [lot for lot in itertools.combinations(tables, 4) if rank_of(2, [rows[0] + rows[1] for rows in lot]) == 4]
        alone = 0
        for lot in lots:
            split, degree = split_or_degree(2, [(rows,) for rows in lot])
            self.same(degree, 0)
            self.assertFalse(is_nilpotent(2, split) or are_turns(2, split))
            alone += all([simple_part(2, (rows,))[0] is None for rows in lot])
        self.assertGreater(alone, 20)

    def test_bases_of_local_ones(self):
        """All bases of the endomorphisms of an unsplittable filling tell its field degree."""
        filling = round_filling(2, (1, 1), 2)
        lot = hom_maps(filling, filling)
        members = [combined_maps(2, factors, lot) for factors in itertools.product(range(2), repeat=len(lot)) if any(factors)]
        flats = {maps: sum([row for rows in maps for row in rows], ()) for maps in members}
        met = 0
        for bases in itertools.islice(itertools.combinations(members, len(lot)), 400):
            if rank_of(2, [flats[maps] for maps in bases]) == len(lot):
                met += 1
                self.assertEqual(split_or_degree(2, list(bases)), (None, 2))
        self.assertGreater(met, 100)

    def test_simple_parts(self):
        for prime, lot, whole in block_lots(14, 60):
            for maps in self.mixed(random.Random(15), whole)[:6]:
                split, degree, part = simple_part(prime, maps)
                if split is not None:
                    self.assertFalse(is_nilpotent(prime, split) or are_turns(prime, split))
                else:
                    low = combined_maps(prime, (1, prime - 1), (maps, part))
                    self.assertTrue(is_nilpotent(prime, low))
                    risen = part
                    for _ in range(degree):
                        risen = self.risen(prime, risen)
                    self.assertEqual(risen, part)

    def risen(self, prime, maps):
        tables = tuple([Table(prime, len(rows), len(rows), rows) for rows in maps])
        return tuple([table.rows for table in power(tables, prime)])

    def test_sums_of_many_parts(self):
        source = random.Random(16)
        for plan in (STAR, BENT, RING, FULL):
            sizes = some_sizes(source, plan, 3, 6)
            one = some_filling(source, plan, 2, sizes)
            twice = one.summed(one)
            self.assertEqual(part_sizes(twice), tuple(sorted(part_sizes(one) * 2)))
            self.assertTrue(all([times_in(part, twice) == 2 * times_in(part, one) for part in parts_of(one)]))
            self.assertEqual(math.gcd(*[2, *[times_in(part, twice) for part in parts_of(twice)]]), 2)


if __name__ == "__main__":
    unittest.main()
