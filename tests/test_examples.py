"""The examples of the document, as they are printed there."""

import ast
import unittest

from arrowsizes import errors
from arrowsizes.base import numbers
from arrowsizes.canon import canons
from arrowsizes.chart import plans
from arrowsizes.counted import counts
from arrowsizes.fill import fillings
from arrowsizes.fixed import kinds
from arrowsizes.general import generals
from arrowsizes.grid import tables
from arrowsizes.joined import joins
from arrowsizes.line import bars
from arrowsizes.mirror import mirrors
from arrowsizes.origin import roots
from arrowsizes.paired import pairs
from arrowsizes.poly import polys, series
from arrowsizes.slices import partitions
from arrowsizes.special import specials
from arrowsizes.split import splits
from arrowsizes.steady import weights
from arrowsizes.use import desk
from tests.helpers import Case

VALUES = """
TWINS = Plan(2, ((0, 1), (0, 1)))
THRICE = Plan(2, ((0, 1), (0, 1), (0, 1)))
STAR = Plan(4, ((1, 0), (2, 0), (3, 0)))
BENT = Plan(3, ((0, 1), (1, 2), (0, 2)))
"""

NUMBERS = """
>>> [is_prime(91), is_prime(97), is_name("Ab"), divisors(12), [moebius(1), moebius(12), moebius(30)], common_divisor((12, -18, 0))]
[False, True, False, (1, 2, 3, 4, 6, 12), [1, 0, -1], 6]
>>> [binomial(6, 2), binomial(2, 3), fraction(6, -4), fraction(0, 7), rows_below((2, 1)), len(rows_below((6, 6, 6)))]
[15, 0, (-3, 2), (0, 1), ((0, 0), (0, 1), (1, 0), (1, 1), (2, 0), (2, 1)), 343]
>>> rows_below((6, 6, 6, 6, 6))
raises TooMany(3000)
"""

POLYS = """
>>> HALF = Quotient(Poly((-1, 0, 1)), Poly((-2, 2)))
>>> [str(Poly((1, -2, 0, 1))), str(HALF), HALF.at(4), str(HALF.minus(Quotient(1, 2))), Quotient(6, -4).bottom.coefficients]
['q^3 - 2*q + 1', '(q + 1)/(2)', (5, 2), '(q)/(2)', (2,)]
>>> [str(gauss(4, 2)), turn_count(2).coefficients, str(power_of_q(-2)), Poly((1, 1)).spread(3).coefficients]
['q^4 + q^3 + 2*q^2 + q + 1', (0, 1, -1, -1, 1), '(1)/(q^2)', (1, 0, 0, 1)]
>>> [str(Series((1, 1), {(1, 0): 1, (0, 1): 1, (1, 1): Poly((0, 1))}).exponential().at((1, 1))), list(Series((2,), {(0,): 1, (1,): 2, (2,): 3}).logarithm().entries)]
['q + 1', [(1,)]]
"""

PARTITIONS = """
>>> [conjugate((4, 2, 2, 1)), joined_parts((3, 1), (2,)), product_number((2, 1), (2,)), partitions(4), len(partitions(18))]
[(4, 3, 1, 1), (3, 2, 1), 3, ((1, 1, 1, 1), (2, 1, 1), (2, 2), (3, 1), (4,)), 385]
>>> [turns_of(()).coefficients, turns_of((2,)).coefficients, turns_of((1, 1)).coefficients, tables_with((2,)).coefficients, tables_with((2, 1)).coefficients]
[(1,), (0, -1, 1), (0, 1, -1, -1, 1), (-1, 0, 1), (-1, -1, 0, 1, 1)]
>>> [ranks_of((3, 2, 2)), parts_of_ranks(7, (4, 1)), is_above((3, 1, 1, 1), (2, 2, 2)), is_above((2, 2, 2), (3, 1, 1, 1)), covers((4, 2))]
[(4, 1), (3, 2, 2), False, False, ((3, 3), (4, 1, 1))]
>>> [len(rows_of_parts((3, 2, 0))), rows_of_parts((1, 2))]
[6, (((1,), (1, 1)), ((1,), (2,)))]
>>> parts_of_ranks(3, (3,))
raises InvalidOperation
"""

TABLES = """
>>> A, T = Table(5, 2, 3, ((1, 2, 3), (0, 1, 4))), Table(5, 2, 2, ((1, 2), (3, 4)))
>>> [A.rank, A.kernel(), A.image(), A.leading((1, 1, 1)), T.undone().rows, T.times(A).rows]
[2, ((0, 1, 1),), ((1, 0), (0, 1)), (1, 0), ((3, 1), (4, 2)), ((1, 4, 1), (3, 0, 0))]
>>> [len(list(turns(2, 2))), turn_number(3, 2), tables_of_rank(2, 2, 1) == Poly((-1, -1, 1, 1)), list(spaces(2, 2, 1))]
[6, 48, True, [((0, 1),), ((1, 0),), ((1, 1),)]]
>>> [base_of(5, 3, ((2, 4, 1), (1, 2, 3))), free_rest(5, 3, ((0, 3, 1),)), T.blocks(zero_table(5, 0, 1)).rows]
[((1, 2, 3),), (0, 2), ((1, 2, 0), (3, 4, 0))]
>>> A.undone()
raises InvalidOperation
"""

PLANS = """
>>> [THRICE.form((1, 1), (1, 2)), THRICE.form((1, 2), (1, 1)), THRICE.norm((2, 3)), THRICE.match((1, 0), (0, 1)), STAR.match_table[0]]
[-3, 0, -5, -3, (2, -1, -1, -1)]
>>> [THRICE.reflected((1, 2), 1), STAR.reflected((1, 1, 1, 1), 0), TWINS.reflected((1, 0), 0), BENT.turned_at(1).arrows, BENT.sinks(), BENT.sources()]
[(1, 1), (2, 1, 1, 1), (-1, 0), ((1, 0), (2, 1), (0, 2)), (2,), (0,)]
>>> [sort_of(STAR), sort_of(TWINS), sort_of(THRICE), sort_of(BENT), null_row(BENT), null_row(Plan.star(4)), null_row(STAR)]
['finite', 'tame', 'wild', 'tame', (1, 1, 1), (2, 1, 1, 1, 1), None]
>>> [Plan(4, ((0, 1), (2, 3))).pieces(), are_joined(BENT, (1, 0, 1)), are_joined(Plan.line(3), (1, 0, 1)), is_bad_row(THRICE, (1, 1)), is_bad_row(TWINS, (2, 2)), str(BENT.piece_plan((0, 2)))]
[((0, 1), (2, 3)), True, False, True, True, 'plan of 2 points, arrows 0-1']
>>> [Plan(2, ((0, 1), (1, 0))).has_ring, BENT.has_ring, is_sizes(BENT, (0, 0, 0)), is_sizes(BENT, (0, 7, 0))]
[True, False, True, False]
>>> Plan(2, ((0, 0),))
raises InvalidPlan
"""

ROOTS = """
>>> CHAIN = Plan.line(3)
>>> [root_paper(THRICE, (3, 3)), is_root_paper(THRICE, (3, 1), ("real", (0,), 1)), is_root_paper(THRICE, (4, 1), ("below", (), 0)), is_root(STAR, (2, 1, 1, 1)), is_root(CHAIN, (1, 0, 1))]
[('imaginary', (), (3, 3)), True, True, True, False]
>>> [roots_to(CHAIN, (2, 2, 2)), len(roots_to(STAR, (2, 2, 2, 2))), roots_to(THRICE, (3, 1))]
[((0, 0, 1), (0, 1, 0), (0, 1, 1), (1, 0, 0), (1, 1, 0), (1, 1, 1)), 12, ((0, 1), (1, 0), (1, 1), (2, 1), (3, 1))]
>>> [multiplicity(THRICE, (3, 3)), multiplicity(BENT, (2, 2, 2)), multiplicity(TWINS, (4, 4)), sum_number(TWINS, (2, 2)), sum_number(CHAIN, (2, 2, 0)), multiplicities(TWINS, (2, 1))]
[3, 2, 1, (3, 2), (1, 2), {(0, 1): 1, (1, 0): 1, (1, 1): 1, (2, 1): 1}]
>>> [signed_sizes(TWINS, (4, 4)), root_paper(Plan(4, ((0, 1), (0, 1), (2, 3), (2, 3))), (1, 1, 1, 1))]
[{(0, 0): 1, (0, 1): -1, (1, 0): -1, (1, 3): 1, (3, 1): 1}, ('apart', (), (1, 1, 1, 1))]
>>> root_paper(CHAIN, (0, 0, 0))
raises InvalidOperation
"""

FILLINGS = """
>>> LINE, ONE = Plan.line(2), Table(2, 1, 1, ((1,),))
>>> EYE, HEAD, TAIL = Filling(LINE, 2, (1, 1), (ONE,)), Filling.single(LINE, 2, 0), Filling.single(LINE, 2, 1)
>>> [hom_number(TAIL, EYE), hom_number(EYE, TAIL), hom_number(EYE, HEAD), ext_number(HEAD, TAIL), ext_number(EYE, EYE), str(EYE), EYE.total]
[1, 0, 1, 1, 0, 'filling of (1, 1) over 2', 2]
>>> FLAT = HEAD.summed(TAIL)
>>> [FLAT == Filling.zero(LINE, 2, (1, 1)), hom_number(FLAT, FLAT), ext_number(FLAT, FLAT), EYE.turned_over().plan == LINE.opposite()]
[True, 2, 1, True]
>>> ALL = ((1,),)
>>> [is_sub(EYE, ((), ALL)), is_sub(EYE, (ALL, ())), sub_filling(EYE, ((), ALL)) == TAIL, quotient_filling(EYE, ((), ALL)) == HEAD, is_hom(EYE, EYE, (ONE, ONE))]
[True, False, True, True, True]
>>> EYE.summed(Filling.zero(LINE, 3, (1, 1)))
raises InvalidOperation
"""

SPLITS = """
>>> EYE, TURN, STEP, NONE = idle_table(2, 2), Table(2, 2, 2, ((0, 1), (1, 1))), Table(2, 2, 2, ((0, 1), (0, 0))), zero_table(2, 2, 2)
>>> ROUND, RUNG, FLAT = [Filling(TWINS, 2, (2, 2), (EYE, table)) for table in (TURN, STEP, NONE)]
>>> [is_unsplittable(ROUND), field_degree(ROUND), is_firm(ROUND), field_degree(RUNG), is_unsplittable(FLAT)]
[True, 2, False, 1, False]
>>> ONE = Filling(TWINS, 2, (1, 1), (idle_table(2, 1), zero_table(2, 1, 1)))
>>> [part_sizes(ROUND), part_sizes(FLAT), times_in(ONE, FLAT), times_in(ONE, RUNG), are_alike(FLAT, ONE.summed(ONE)), are_alike(FLAT, RUNG)]
[(((2, 2), 2),), (((1, 1), 1), ((1, 1), 1)), 2, 0, True, False]
>>> [is_parts(FLAT, (ONE, ONE)), is_parts(FLAT, parts_of(FLAT)), parts_of(Filling.zero(TWINS, 2, (0, 0)))]
[True, True, ()]
>>> [is_likeness(ROUND, ROUND, (TURN, TURN)), is_likeness(ROUND, ROUND, (EYE, TURN))]
[True, False]
>>> times_in(FLAT, ONE)
raises InvalidOperation
"""

MIRRORS = """
>>> LONG = filling_of_root(CHAIN, 5, (1, 1, 1))
>>> [mirrored(LONG, 2).sizes, mirrored(LONG, 0).sizes, mirrored(mirrored(LONG, 2), 2).sizes, point_parts(LONG, 2)]
[(1, 1, 0), (0, 1, 1), (1, 1, 1), 0]
>>> [is_sink_word(CHAIN, (1, 1, 1), ((2, 1), 0)), is_sink_word(CHAIN, (1, 1, 1), ((0,), 1)), is_sink_word(CHAIN, (0, 0, 1), ((), 2)), len(finite_roots(Plan.line(4)))]
[True, False, True, 10]
>>> [hom_table(CHAIN)[((0, 1, 1), (1, 1, 1))], hom_table(CHAIN)[((1, 1, 1), (0, 1, 1))], hom_table(CHAIN)[((1, 1, 1), (1, 1, 0))], root_parts(LONG.summed(LONG)), root_sums(CHAIN, (1, 1, 1)), root_sums(CHAIN, (2, 2, 2))]
[1, 0, 1, {(1, 1, 1): 2}, 4, 10]
>>> filling_of_root(CHAIN, 2, (1, 0, 1))
raises InvalidOperation
"""

KINDS = """
>>> [kinds_number(TWINS, sizes, 2) for sizes in ((1, 1), (2, 1), (2, 2))], kinds_number(TWINS, (1, 1), 3), kinds_number(STAR, (2, 1, 1, 1), 3)
([4, 5, 16], 5, 15)
>>> [unsplittable_number(TWINS, sizes, 2) for sizes in ((1, 1), (2, 0), (2, 1), (2, 2))], unsplittable_number(STAR, (2, 1, 1, 1), 2), kinds_mass(TWINS, (1, 1), 3)
([3, 0, 1, 4], 1, (9, 4))
>>> KINDS = list(all_kinds(TWINS, (1, 1), 3))
>>> [[one.tables[0].rows + one.tables[1].rows for one in KINDS], [keepers_number(one) for one in KINDS], [orbit_number(one) for one in KINDS]]
[[((0,), (0,)), ((0,), (1,)), ((1,), (0,)), ((1,), (1,)), ((1,), (2,))], [4, 2, 2, 2, 2], [1, 2, 2, 2, 2]]
>>> IDLE = (idle_table(2, 2), idle_table(2, 2))
>>> [fixed_number(TWINS, IDLE), are_turns_for(TWINS, (2, 2), IDLE), are_turns_for(TWINS, (2, 1), IDLE)]
[256, True, False]
>>> kinds_number(TWINS, (4, 4), 2)
raises TooMany(20000)
"""

COUNTS = """
>>> [firm_poly(TWINS, (2, 2)).coefficients, firm_poly(THRICE, (2, 2)).coefficients, firm_poly(THRICE, (2, 3)).coefficients, firm_poly(STAR, (2, 1, 1, 0)).coefficients]
[(1, 1), (1, 3, 3, 3, 1, 1), (2, 3, 5, 4, 3, 1, 1), ()]
>>> [firm_poly(BENT, (2, 2, 1)).coefficients, firm_poly(Plan.star(4), (2, 1, 1, 1, 1)).coefficients, firm_poly(Plan(2, ((0, 1), (1, 0))), (1, 1)).coefficients]
[(1,), (4, 1), (1, 1)]
>>> [kinds_at(TWINS, (2, 2), 2), kinds_at(THRICE, (2, 2), 2), kinds_at(STAR, (2, 1, 1, 1), 2), kinds_at(Plan.star(4), (2, 1, 1, 1, 1), 3), kinds_at(BENT, (0, 0, 0), 2)]
[16, 148, 15, 52, 1]
>>> [unsplittable_at(TWINS, (2, 2), 2), unsplittable_at(THRICE, (2, 2), 2), [unsplittable_at(TWINS, (3, 3), q) for q in (2, 3)]]
[4, 98, [5, 12]]
>>> [joining_poly(BENT).coefficients, joining_sets(BENT), joining_poly(Plan(2, ())).coefficients]
[(2, 1), ((0, 1), (0, 1, 2), (0, 2), (1, 2)), ()]
>>> [taken_apart({(0,): 1, (1,): 2, (2,): 4}), put_together({(1,): 2, (2,): 1}), partition_sum(TWINS, (1, 0)) == Quotient(Poly((1,)), Poly((-1, 1)))]
[{(1,): 2, (2,): 1}, {(0,): 1, (1,): 2, (2,): 4}, True]
>>> firm_poly(TWINS, (0, 0))
raises InvalidSizes
"""

PAIRS = """
>>> X = Filling(TWINS, 3, (1, 1), (Table(3, 1, 1, ((1,),)), Table(3, 1, 1, ((2,),))))
>>> Y = Filling(TWINS.opposite(), 3, (1, 1), (Table(3, 1, 1, ((1,),)), Table(3, 1, 1, ((0,),))))
>>> [[table.rows for table in pair_sums(X, Y)], is_pair_told(X, Y, (2, 1)), is_pair_told(X, Y, (-1, 4)), lifts_number(X, (2, 1)), lifts_number(X, (1, 1))]
[[((2,),), ((1,),)], True, True, 3, 0]
>>> [lift_paper(X, (1, 2))[0], lift_paper(X, (1, 1))[0], is_lift_paper(X, (2, 1), ("lift", Y)), is_lift_paper(X, (1, 1), ("hom", (Table(3, 1, 1, ((1,),)), Table(3, 1, 1, ((1,),)))))]
['lift', 'hom', True, True]
>>> [are_general(TWINS, 3, (2, 1), (1, 1)), are_general(TWINS, 2, (2, 1), (1, 1)), are_general(TWINS, 3, (1, 1), (1, 2)), pairs_number(TWINS, 3, (1, 1), (0, 0)), pairs_number(TWINS, 3, (2, 1), (1, 1)), pairs_number(TWINS, 2, (2, 1), (1, 1))]
[True, False, True, 33, 48, 0]
>>> [pairs_poly(TWINS, (1, 1)).coefficients, pairs_poly(TWINS, (2, 1)).at(2), pairs_poly(TWINS, (2, 1)).at(3)]
[(0, -1, 1, 1), 58, 417]
>>> are_general(TWINS, 3, (0, 0), (1, 2))
raises InvalidOperation
"""


GENERALS = """
>>> TWO, THREE, FOUR = Plan.twins(2), Plan.twins(3), Plan(5, ((1, 0), (2, 0), (3, 0), (4, 0)))
>>> [subs_of(TWO, (1, 1)), subs_of(TWO, (2, 2)), subs_of(THREE, (2, 2)), len(subs_of(FOUR, (2, 1, 1, 1, 1)))]
[((0, 0), (0, 1), (1, 1)), ((0, 0), (0, 1), (0, 2), (1, 1), (1, 2), (2, 2)), ((0, 0), (0, 1), (0, 2), (1, 2), (2, 2)), 22]
>>> [sits_in(THREE, (1, 1), (2, 2)), is_bar(THREE, (1, 1), (2, 2), (1, 1)), bar_of(TWO, (1, 1), (2, 2)), sits_in(TWO, (2, 0), (1, 1))]
[False, True, None, False]
>>> [ext_of_sizes(TWO, (1, 0), (0, 1)), hom_of_sizes(TWO, (1, 2), (2, 1)), ext_of_sizes(TWO, (2, 1), (1, 2)), ext_of_sizes(THREE, (2, 2), (1, 1)), best_sub(THREE, (1, 1), (1, 1))]
[2, 2, 4, 2, (1, 1)]
>>> [schur_roots(TWO, (3, 3)), is_schur(THREE, (2, 2)), is_schur(FOUR, (2, 1, 1, 1, 1)), is_schur(TWO, (2, 2)), is_schur(TWO, (0, 0))]
[((0, 1), (1, 0), (1, 1), (1, 2), (2, 1), (2, 3), (3, 2)), True, True, False, False]
>>> subs_of(Plan(2, ((0, 1), (1, 0))), (1, 1))
raises Refused(('ring',))
"""

CANONS = """
>>> LINE = Plan.line(3)
>>> [canonical_parts(TWINS, (2, 2)), canonical_parts(TWINS, (1, 3)), canonical_parts(THRICE, (1, 4)), canonical_parts(THRICE, (2, 2))]
[{(1, 1): 2}, {(0, 1): 1, (1, 2): 1}, {(0, 1): 1, (1, 3): 1}, {(2, 2): 1}]
>>> [canonical_parts(LINE, (2, 1, 2)), canonical_parts(LINE, (1, 2, 1)), canonical_parts(Plan.star(4), (2, 1, 1, 1, 1)), canonical_parts(TWINS, (0, 0))]
[{(0, 0, 1): 1, (1, 0, 0): 1, (1, 1, 1): 1}, {(0, 1, 0): 1, (1, 1, 1): 1}, {(2, 1, 1, 1, 1): 1}, {}]
>>> [free_number(TWINS, (2, 2)), endomorphism_number(TWINS, (2, 2)), free_number(THRICE, (2, 2)), endomorphism_number(THRICE, (2, 2)), free_number(LINE, (2, 1, 2)), splitting_of(TWINS, (2, 2))]
[2, 2, 5, 1, 0, (1, 1)]
>>> [are_canonical(TWINS, (2, 2), {(2, 2): 1}), are_canonical(TWINS, (2, 2), {(1, 1): 2}), is_splitting(THRICE, (2, 2), (1, 1)), is_splitting(LINE, (1, 2, 1), (0, 1, 0))]
[False, True, False, True]
>>> canonical_parts(Plan(2, ((0, 1), (1, 0))), (1, 1))
raises Refused(('ring',))
"""

WEIGHTS = """
>>> [mean_of(TWINS, (1, 0), (2, 4)), has_steady(THRICE, (1, 0), (2, 3)), has_steady(THRICE, (0, 1), (2, 3)), barring_row(TWINS, (0, 1), (1, 1)), has_hard(TWINS, (1, 0), (2, 2))]
[(1, 3), True, False, (0, 1), False]
>>> [str(steady_share(TWINS, (1, 0), (1, 1))), str(steady_share(STAR, (-1, 0, 0, 0), (2, 1, 1, 1))), str(steady_share(THRICE, (1, 0), (2, 3)).top)]
['(q + 1)/(q - 1)', '(1)/(q - 1)', 'q^6 + q^5 + 3*q^4 + 3*q^3 + 3*q^2 + q + 1']
>>> [types_of(TWINS, (0, 1), (1, 1)), str(type_share(TWINS, (0, 1), ((0, 1), (1, 0)))), str(whole_share(TWINS, (1, 1)))]
[(((0, 1), (1, 0)),), '(q^2)/(q^2 - 2*q + 1)', '(q^2)/(q^2 - 2*q + 1)']
"""

BARS = """
>>> BOTH, SOME = (((0, 1), 1),), (((0, 0), 1), ((0, 1), 1))
>>> [sizes_of_bars(2, SOME), ranks_of_bars(2, SOME), greatest_bars((2, 3, 1)), bar_row_of(filling_of_bars(2, 3, SOME)) == SOME]
[(2, 1), {(0, 0): 2, (0, 1): 1, (1, 1): 1}, (((0, 1), 1), ((0, 2), 1), ((1, 1), 1)), True]
>>> [bar_homs(2, SOME, SOME), bar_homs(2, BOTH, SOME), bar_exts(2, (((0, 0), 1),), (((1, 1), 1),)), joined_bars(3, (0, 1), (1, 2)), joined_bars(3, (1, 2), (0, 1))]
[3, 2, 1, (((0, 2), 1), ((1, 1), 1)), None]
>>> [are_below(2, (((0, 0), 1), ((1, 1), 1)), BOTH), bar_turns(2, SOME).coefficients, bar_fillings(2, SOME).coefficients, is_bar_row(2, (((0, 1), 0),))]
[True, (0, 1, -2, 1), (-1, 0, 1), False]
>>> joined_bars(2, (0, 2), (0, 0))
raises InvalidPoint
"""

SPECIALS = """
>>> [places(2, 1), places(2, 2), len(places(5, 3)), is_label(2, ("place", (1, 0, 1), 1))]
[((), (0, 1), (1, 1)), ((1, 1, 1),), 40, False]
>>> ONE = two_of_kind(3, {("more", 1): 1, ("place", (1, 1), 1): 1})
>>> [ONE.sizes, [table.rows for table in ONE.tables], two_kind(ONE) == {("more", 1): 1, ("place", (1, 1), 1): 1}]
[(3, 2), [((1, 0, 0), (0, 0, 1)), ((0, 1, 0), (0, 0, 2))], True]
>>> [two_poly((3, 3)).coefficients, lines_poly(4).coefficients, lines_poly(5).coefficients, lines_kinds(2, 4), lines_kinds(5, 4)]
[(1, 1), (4, 1), (11, 5, 1), 51, 54]
>>> LINES = Filling(Plan.star(4), 5, (2, 1, 1, 1, 1), tuple([Table(5, 2, 1, ((x,), (y,))) for x, y in ((1, 1), (2, 0), (0, 1), (1, 3))]))
>>> [line_pattern(LINES), lines_of_pattern(5, 4, ((0, 1, 2, 3), (4,))).tables[3].rows, is_line_pattern(3, 4, ((0, None, 1, 0), ()))]
[((0, 1, 2, 3), (4,)), ((1,), (4,)), True]
>>> two_poly((0, 0))
raises InvalidSizes
"""

JOINS = """
>>> LINE, ONE = Plan.line(2), Table(3, 1, 1, ((1,),))
>>> EYE, HEAD, TAIL = Filling(LINE, 3, (1, 1), (ONE,)), Filling.single(LINE, 3, 0), Filling.single(LINE, 3, 1)
>>> [join_number(EYE, TAIL, HEAD), join_number(EYE, HEAD, TAIL), middle_number(HEAD, TAIL, EYE), likeness_number(EYE), likeness_number(HEAD.summed(HEAD)), len(class_base(HEAD, TAIL))]
[1, 0, 2, 2, 48, 1]
>>> [extended(HEAD, TAIL, (ONE,)) == EYE, sorted([number for filling, number in middles(HEAD, TAIL)]), len(list(subs_with(HEAD.summed(HEAD), (1, 0))))]
[True, [1, 2], 4]
>>> [line_sort(EYE), line_join((1, 1, 1), (0, 1, 0), (1, 0, 0)) == Poly((1,)), line_join((0, 2, 0), (0, 1, 0), (0, 1, 0)) == Poly((1, 1))]
[(1, 1, 1), True, True]
>>> extended(HEAD, TAIL, ())
raises InvalidOperation
"""

DESK = """
>>> line, kept = Plan.line(2), ("hom", "a", "c", 1)
>>> desk, long = Desk(line, 2), filling_of_bars(2, 2, (((0, 1), 1),))
>>> [desk.put("a", long), desk.put("b", filling_of_bars(2, 2, (((1, 1), 1),))), desk.pair("c", "a", "b"), str(desk)]
[((), ('a: 1 1 in 1 parts',)), ((), ('b: 0 1 in 1 parts',)), ((), ('c: 1 2 in 2 parts',)), 'desk of 3 fillings, 0 pledges']
>>> [desk.demand(kept), desk.demand(("firm", "b")), desk.lines]
[((), ()), ((), ()), ('a: 1 1 in 1 parts', 'b: 0 1 in 1 parts', 'c: 1 2 in 2 parts')]
>>> desk.drop("b")
raises Refused(("firm", "b"))
>>> [desk.waive(("firm", "b")), desk.drop("b"), desk.undo(many=2), desk.redo(), desk.changes, len(desk)]
[((), ()), (('b: 0 1 in 1 parts',), ()), ((), ('b: 0 1 in 1 parts',)), ((), ()), 6, 1]
"""


def all_names():
    """The names of all modules, and the values that the examples use."""
    names = {}
    for module in (errors, numbers, polys, series, partitions, tables, plans, roots, fillings, splits, mirrors, kinds, counts, pairs, generals, canons, weights, bars, specials, joins, desk):
        names.update(vars(module))
    exec(VALUES, names)
    return names


class Examples(Case):

    def kept_by(self, error):
        return [getattr(error, name) for name in ("value", "name", "wanted", "limit", "reason", "spot") if hasattr(error, name)]

    def refused_as_told(self, line, told, names):
        """The line raises the told error, which keeps what stands in parentheses."""
        with self.assertRaises(Exception) as caught:
            eval(line, names)
        name, _, kept = told.partition("(")
        self.assertIs(type(caught.exception), names[name])
        if kept:
            self.assertEqual(self.kept_by(caught.exception), [ast.literal_eval(kept[:-1])])

    def check(self, text):
        names, lines = all_names(), text.strip().split("\n")
        for at, line in enumerate(lines):
            if not line.startswith(">>> "):
                continue
            follows = lines[at + 1] if at + 1 < len(lines) else ">>> "
            with self.subTest(line=line):
                if follows.startswith(">>> "):
                    exec(line[4:], names)
                elif follows.startswith("raises "):
                    self.refused_as_told(line[4:], follows[7:], names)
                else:
                    self.assertEqual(repr(eval(line[4:], names)), follows)

    def test_numbers(self):
        self.check(NUMBERS)

    def test_polys(self):
        self.check(POLYS)

    def test_partitions(self):
        self.check(PARTITIONS)

    def test_tables(self):
        self.check(TABLES)

    def test_plans(self):
        self.check(PLANS)

    def test_roots(self):
        self.check(ROOTS)

    def test_fillings(self):
        self.check(FILLINGS)

    def test_splits(self):
        self.check(SPLITS)

    def test_mirrors(self):
        """These examples use the chain of the sixth stage."""
        self.check(">>> CHAIN = Plan.line(3)" + MIRRORS)

    def test_kinds(self):
        self.check(KINDS)

    def test_counts(self):
        self.check(COUNTS)

    def test_pairs(self):
        self.check(PAIRS)

    def test_generals(self):
        self.check(GENERALS)

    def test_canons(self):
        self.check(CANONS)

    def test_weights(self):
        self.check(WEIGHTS)

    def test_bars(self):
        self.check(BARS)

    def test_specials(self):
        self.check(SPECIALS)

    def test_joins(self):
        self.check(JOINS)

    def test_desk(self):
        self.check(DESK)


if __name__ == "__main__":
    unittest.main()
