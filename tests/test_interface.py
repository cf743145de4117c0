"""The interface: names, arguments, constants, and in which file each name is defined."""

import importlib
import inspect
import unittest

from tests.helpers import Case

CONSTANTS = {
    "base.numbers": {"MAX_NAME": 8, "MAX_FACTORED": 10 ** 9, "MAX_CHOSEN": 1000, "MAX_BELOW": 3000},
    "poly.polys": {"MOST_DEGREE": 100},
    "poly.series": {"MOST_TERMS": 60},
    "slices.partitions": {"MAX_PARTS": 24, "MAX_LISTED": 18, "MAX_ROWS": 3000},
    "grid.tables": {"MAX_SIDE": 36, "MAX_TURNS": 20000, "MAX_SPACES": 3000},
    "chart.plans": {"MOST_POINTS": 6, "MOST_ARROWS": 9, "MOST_SIZE": 6},
    "origin.roots": {"MAX_ROWS": 400},
    "fill.fillings": {},
    "split.splits": {"MAX_SPLIT": 12},
    "mirror.mirrors": {},
    "fixed.kinds": {"MAX_TURNED": 20000, "MAX_FILLED": 4096},
    "counted.counts": {"MOST_ROWS": 400, "MOST_FIELD": 100},
    "paired.pairs": {"MAX_PAIRED": 4096, "MAX_LIFTED": 12},
    "general.generals": {"MAX_GENERAL": 14, "MAX_SUBS": 300},
    "canon.canons": {},
    "steady.weights": {"MAX_STEADY": 14, "MAX_CHAINS": 100, "MAX_TRIED": 4096},
    "line.bars": {"MAX_BAR_ROWS": 3000},
    "special.specials": {"MAX_PLACE": 4, "MAX_ARMS": 5},
    "joined.joins": {"MAX_JOINED": 20000},
    "use.desk": {"MAX_FILLINGS": 6, "MAX_PLEDGES": 10, "MAX_SPLIT": 12},
}

FUNCTIONS = {
    "base.numbers": (
        "is_integer(value)", "is_name(value)", "is_prime(value)", "common_divisor(numbers)", "divisors(number)",
        "moebius(number)", "binomial(top, low)", "fraction(top, bottom)", "rows_below(sizes)"),
    "poly.polys": ("gauss(top, low)", "turn_count(size)", "power_of_q(many)"),
    "poly.series": (),
    "slices.partitions": (
        "is_parts(value)", "total_of(parts)", "conjugate(parts)", "joined_parts(one, other)", "partitions(number)",
        "rows_of_parts(sizes)", "product_number(one, other)", "turns_of(parts)", "tables_with(parts)", "ranks_of(parts)",
        "parts_of_ranks(number, ranks)", "is_above(one, other)", "covers(parts)"),
    "grid.tables": (
        "idle_table(prime, size)", "zero_table(prime, height, width)", "base_of(prime, height, columns)",
        "free_rest(prime, height, columns)", "turns(prime, size)", "turn_number(prime, size)",
        "tables_of_rank(height, width, rank)", "spaces(prime, height, number)"),
    "chart.plans": (
        "is_sizes(plan, value)", "are_joined(plan, sizes)", "sort_of(plan)", "null_row(plan)", "bad_row(plan)",
        "is_bad_row(plan, value)"),
    "origin.roots": (
        "root_paper(plan, sizes)", "is_root_paper(plan, sizes, value)", "is_root(plan, sizes)", "roots_to(plan, sizes)",
        "sum_number(plan, sizes)", "multiplicity(plan, sizes)", "multiplicities(plan, sizes)", "signed_sizes(plan, sizes)"),
    "fill.fillings": (
        "is_hom(one, other, value)", "hom_number(one, other)", "ext_number(one, other)", "hom_base(one, other)",
        "is_hom_base(one, other, value)", "is_sub(filling, value)", "plain_spaces(filling, spaces)", "sub_filling(filling, spaces)",
        "quotient_filling(filling, spaces)", "kernel_of(one, other, hom)", "image_of(one, other, hom)"),
    "split.splits": (
        "is_unsplittable(filling)", "field_degree(filling)", "is_firm(filling)", "idempotent_of(filling)",
        "is_idempotent(filling, value)", "halves_of(filling, idempotent)", "parts_of(filling)", "is_parts(filling, value)",
        "part_sizes(filling)", "times_in(one, other)", "are_alike(one, other)", "any_likeness(one, other)",
        "is_likeness(one, other, value)"),
    "mirror.mirrors": (
        "mirrored(filling, point)", "point_parts(filling, point)", "sink_word(plan, sizes)", "is_sink_word(plan, sizes, value)",
        "filling_of_root(plan, prime, sizes)", "finite_roots(plan)", "hom_table(plan)", "root_parts(filling)", "root_sums(plan, sizes)"),
    "fixed.kinds": (
        "are_turns_for(plan, sizes, value)", "fixed_number(plan, turned)", "kinds_number(plan, sizes, prime)",
        "unsplittable_number(plan, sizes, prime)", "kinds_mass(plan, sizes, prime)", "all_kinds(plan, sizes, prime)",
        "keepers_number(filling)", "orbit_number(filling)"),
    "counted.counts": (
        "partition_sum(plan, sizes)", "firm_poly(plan, sizes)", "firm_polys(plan, sizes)", "kinds_at(plan, sizes, number)",
        "unsplittable_at(plan, sizes, number)", "joining_poly(plan)", "joining_sets(plan)", "taken_apart(kinds)", "put_together(parts)"),
    "paired.pairs": (
        "pair_sums(filling, other)", "is_pair_told(filling, other, numbers)", "lift_paper(filling, numbers)",
        "is_lift_paper(filling, numbers, value)", "lifts_number(filling, numbers)", "are_general(plan, prime, sizes, numbers)",
        "pairs_number(plan, prime, sizes, numbers)", "pairs_poly(plan, sizes)"),
    "general.generals": (
        "subs_of(plan, sizes)", "sits_in(plan, one, whole)", "bar_of(plan, one, whole)", "is_bar(plan, one, whole, value)",
        "ext_of_sizes(plan, one, other)", "hom_of_sizes(plan, one, other)", "best_sub(plan, one, other)",
        "is_best_sub(plan, one, other, value)", "is_schur(plan, sizes)", "schur_roots(plan, sizes)"),
    "canon.canons": (
        "canonical_parts(plan, sizes)", "are_canonical(plan, sizes, value)", "splitting_of(plan, sizes)",
        "is_splitting(plan, sizes, value)", "free_number(plan, sizes)", "endomorphism_number(plan, sizes)"),
    "steady.weights": (
        "mean_of(plan, weight, sizes)", "has_steady(plan, weight, sizes)", "has_hard(plan, weight, sizes)",
        "barring_row(plan, weight, sizes)", "is_barring_row(plan, weight, sizes, value)", "whole_share(plan, sizes)",
        "steady_share(plan, weight, sizes)", "type_share(plan, weight, parts)", "types_of(plan, weight, sizes)",
        "type_of_filling(filling, weight)", "is_steady_filling(filling, weight)", "is_hard_filling(filling, weight)"),
    "line.bars": (
        "bar_row_of(filling)", "rank_between(filling, one, other)", "is_bar_row(size, value)", "sizes_of_bars(size, bars)",
        "ranks_of_bars(size, bars)", "filling_of_bars(size, prime, bars)", "bar_homs(size, one, other)", "bar_exts(size, one, other)",
        "joined_bars(size, one, other)", "are_below(size, one, other)", "bar_rows(sizes)", "greatest_bars(sizes)",
        "bar_turns(size, bars)", "bar_fillings(size, bars)"),
    "special.specials": (
        "places(prime, degree)", "is_label(prime, value)", "two_filling(prime, label)", "two_kind(filling)", "two_of_kind(prime, kind)",
        "two_poly(sizes)", "line_pattern(filling)", "is_line_pattern(prime, arms, value)", "lines_of_pattern(prime, arms, pattern)",
        "lines_poly(arms)", "lines_kinds(prime, arms)"),
    "joined.joins": (
        "subs_with(filling, sizes)", "join_number(whole, sub, rest)", "extended(rest, sub, between)", "class_base(rest, sub)",
        "middle_number(rest, sub, whole)", "middles(rest, sub)", "likeness_number(filling)", "line_sort(filling)",
        "line_join(whole, sub, rest)"),
    "use.desk": ("is_pledge(value)",),
}

CLASSES = {
    "poly.polys": {
        "Poly": ("__init__(self, coefficients)", "plus(self, other)", "minus(self, other)", "times(self, other)", "raised(self, many)",
                 "spread(self, many)", "at(self, number)", "__eq__", "__len__", "__str__", "coefficients", "degree", "content"),
        "Quotient": ("__init__(self, top, bottom=1)", "plus(self, other)", "minus(self, other)", "times(self, other)", "over(self, other)",
                     "raised(self, many)", "spread(self, many)", "at(self, number)", "__eq__", "__str__", "top", "bottom", "is_whole"),
    },
    "poly.series": {
        "Series": ("__init__(self, bound, entries)", "at(self, row)", "plus(self, other)", "times(self, other)", "exponential(self)",
                   "logarithm(self)", "__eq__", "bound", "entries"),
    },
    "grid.tables": {
        "Table": ("__init__(self, prime, height, width, rows)", "entry_at(self, row, column)", "plus(self, other)", "minus(self, other)",
                  "times(self, other)", "scaled(self, number)", "leading(self, column)", "solved(self, column)", "kernel(self)",
                  "image(self)", "swapped(self)", "undone(self)", "blocks(self, other)", "__eq__", "__str__", "prime", "height",
                  "width", "rows", "rank", "is_turn"),
    },
    "chart.plans": {
        "Plan": ("__init__(self, size, arrows)", "line(cls, size)", "star(cls, arms)", "twins(cls, many)", "form(self, one, other)",
                 "match(self, one, other)", "norm(self, row)", "reflected(self, row, point)", "turned_at(self, point)",
                 "opposite(self)", "ends_at(self, point)", "starts_at(self, point)", "sinks(self)", "sources(self)", "pieces(self)",
                 "piece_plan(self, points)", "__eq__", "__str__", "size", "arrows", "has_ring", "match_table"),
    },
    "fill.fillings": {
        "Filling": ("__init__(self, plan, prime, sizes, tables)", "zero(cls, plan, prime, sizes)", "single(cls, plan, prime, point)",
                    "summed(self, other)", "changed(self, turns)", "turned_over(self)", "__eq__", "__str__", "plan", "prime", "sizes",
                    "tables", "total"),
    },
    "use.desk": {
        "Desk": ("__init__(self, plan, prime)", "put(self, name, filling)", "pair(self, name, one, other)", "turn(self, name, turns)",
                 "drop(self, name)", "rename(self, names)", "demand(self, pledge)", "waive(self, pledge)", "undo(self, *, many=1)",
                 "redo(self, *, many=1)", "trial(self)", "during(self, call)", "twin(self)", "filling_named(self, name)", "names",
                 "lines", "pledges", "changes", "__contains__", "__len__", "__iter__", "__eq__", "__str__"),
    },
}


def module_of(name):
    return importlib.import_module("arrowsizes." + name)


class Interface(Case):

    def test_constants(self):
        for name, told in CONSTANTS.items():
            for constant, value in told.items():
                self.same(getattr(module_of(name), constant), value)

    def test_functions(self):
        for name, told in FUNCTIONS.items():
            for text in told:
                function = getattr(module_of(name), text.partition("(")[0])
                self.assertTrue(inspect.isfunction(function))
                self.assertEqual(function.__module__, "arrowsizes." + name)
                self.assertEqual(function.__name__ + str(inspect.signature(function)), text)

    def test_classes(self):
        for name, told in CLASSES.items():
            for word, members in told.items():
                owner = getattr(module_of(name), word)
                self.assertEqual((owner.__module__, owner.__bases__), ("arrowsizes." + name, (object,)))
                for text in members:
                    member = text.partition("(")[0]
                    self.assertIn(member, vars(owner))
                    held = vars(owner)[member]
                    if "(" in text:
                        call = held.__func__ if isinstance(held, classmethod) else held
                        self.assertEqual(call.__name__ + str(inspect.signature(call)), text)
                    self.assertEqual("cls" in text, isinstance(held, classmethod))

    def test_generators(self):
        for module, text in (("grid.tables", "turns"), ("grid.tables", "spaces"), ("fixed.kinds", "all_kinds"), ("line.bars", "bar_rows"), ("joined.joins", "subs_with")):
            self.assertTrue(inspect.isgeneratorfunction(getattr(module_of(module), text)))


if __name__ == "__main__":
    unittest.main()
