"""cases.py: points 19, 20 and 27."""

import itertools
import random
import unittest

from rulerows import cases
from rulerows.cases import count_cases, index_of_case, nth_case
from rulerows.lists import regions
from tests.support import (
    EDGE_LISTS, LISTED, NOT_CASES, NOT_LISTS, NOT_SETS, WIDEST, RowsTest,
    all_cases, all_sets, fitting, some_lists,
)


def pairs_of_sets(listed, rng, most=12):
    pairs = list(itertools.product(all_sets(listed), repeat=2))
    return pairs if len(pairs) <= most else rng.sample(pairs, most)


class FittingCasesTest(RowsTest):

    def test_count_number_and_index(self):
        rng = random.Random(21)
        for listed in EDGE_LISTS + tuple(some_lists(22, 60, most_cases=24)):
            for chosen, avoided in pairs_of_sets(listed, rng):
                expected = fitting(listed, chosen, avoided)
                told = (listed, chosen, avoided)
                self.same(count_cases(listed, chosen, avoided), len(expected), told)
                for index, case in enumerate(expected):
                    self.same(nth_case(listed, chosen, avoided, index), case, told)
                for case in all_cases(listed[0]):
                    index = expected.index(case) if case in expected else None
                    self.same(index_of_case(listed, chosen, avoided, case), index, told)

    def test_two_empty_sets_fit_all_cases(self):
        for listed in EDGE_LISTS + (WIDEST,):
            found = all_cases(listed[0])
            self.same(count_cases(listed, (), ()), len(found))
            self.same(nth_case(listed, (), (), 0), found[0])
            self.same(nth_case(listed, (), (), len(found) - 1), found[-1])
            self.same(index_of_case(listed, (), (), found[-1]), len(found) - 1)

    def test_all_indexes_of_the_widest_list(self):
        for index, case in list(enumerate(all_cases((8, 8, 8))))[::37]:
            self.same(nth_case(WIDEST, (), (), index), case)
            self.same(index_of_case(WIDEST, (), (), case), index)

    def test_sets_with_a_common_rule(self):
        for chosen, avoided in (((0,), (0,)), ((0, 1), (1, 2)), ((1,), (0, 1, 2)), ((0, 1, 2), (2,))):
            self.same(count_cases(LISTED, chosen, avoided), 0)
            for index in (0, 1, -1):
                self.bad("index", nth_case, LISTED, chosen, avoided, index)
            for case in all_cases((4, 3)):
                self.same(index_of_case(LISTED, chosen, avoided, case), None)

    def test_no_fitting_case(self):
        listed = ((4,), ((1, ((0, 1),)), (2, ((2, 3),)), (3, ((0, 3),))), 0)
        for chosen, avoided in (((0, 1), ()), ((0,), (2,)), ((), (0, 1)), ((), (2,)), ((2,), (0, 1))):
            self.same(count_cases(listed, chosen, avoided), 0)
            self.bad("index", nth_case, listed, chosen, avoided, 0)
            self.same(index_of_case(listed, chosen, avoided, (0,)), None)

    def test_the_number_is_the_sum_over_regions(self):
        rng = random.Random(23)
        for listed in EDGE_LISTS + (WIDEST,) + tuple(some_lists(24, 20)):
            told = regions(listed)
            for chosen, avoided in pairs_of_sets(listed, rng, 6):
                found = [many for region, many in told if set(chosen) <= set(region) and not set(avoided) & set(region)]
                self.same(count_cases(listed, chosen, avoided), sum(found))

    def test_a_rule_more_never_makes_it_greater(self):
        rng = random.Random(25)
        for listed in some_lists(26, 30):
            for chosen, avoided in pairs_of_sets(listed, rng, 6):
                many = count_cases(listed, chosen, avoided)
                for number in range(len(listed[1])):
                    within = count_cases(listed, tuple(sorted({*chosen, number})), avoided)
                    without = count_cases(listed, chosen, tuple(sorted({*avoided, number})))
                    self.assertLessEqual(within, many)
                    self.assertLessEqual(without, many)
                    if number not in chosen and number not in avoided:
                        self.same(within + without, many)

    def test_wrong_arguments(self):
        listed = ("listed", LISTED, NOT_LISTS)
        chosen, avoided = ("chosen", (0,), NOT_SETS), ("avoided", (1, 2), NOT_SETS)
        self.check_arguments(count_cases, listed, chosen, avoided)
        many = len(fitting(LISTED, (0,), (1, 2)))
        not_indexes = (many, many + 1, -1, 12, 10 ** 30, None, True, False, "0", (), (0,), [0])
        self.check_arguments(nth_case, listed, chosen, avoided, ("index", many - 1, not_indexes))
        self.check_arguments(index_of_case, listed, chosen, avoided, ("case", (0, 0), NOT_CASES))

    def test_wrong_indexes_without_rules(self):
        empty = ((8,), (), 0)
        self.same(nth_case(empty, (), (), 7), (7,))
        for index in (8, -1, True, None):
            self.bad("index", nth_case, empty, (), (), index)
        for chosen in ((0,), [], None):
            self.bad("chosen", count_cases, empty, chosen, ())
            self.bad("avoided", count_cases, empty, (), chosen)

    def test_functions_are_defined_in_their_file(self):
        for name in ("count_cases", "nth_case", "index_of_case"):
            self.assertEqual(getattr(cases, name).__module__, "rulerows.cases")


if __name__ == "__main__":
    unittest.main()
