"""made.py: points 13 to 17."""

import unittest

from rulerows import made
from rulerows.lists import decider, decision, first_difference, shares
from rulerows.made import other_case, put_in_row, without
from tests.support import (
    EDGE_LISTS, LISTED, NOT_LISTS, NOT_NUMBERS, NOT_ROWS, WIDEST, RowsTest,
    all_cases, all_rows, ascending, deciding, some_lists,
)


class WithoutTest(RowsTest):

    def test_without(self):
        for listed in EDGE_LISTS + tuple(some_lists(11, 60)):
            widths, rules, rest = listed
            for number in range(len(rules)):
                others = tuple([rule for place, rule in enumerate(rules) if place != number])
                self.same(without(listed, number), (widths, others, rest))

    def test_the_last_rule(self):
        self.same(without(((2,), ((1, ((0, 1),)),), 4), 0), ((2,), (), 4))

    def test_a_rule_that_decides_nothing_changes_nothing(self):
        tried = 0
        for listed in some_lists(12, 200, most_cases=30):
            row = ascending(listed)
            for number in row:
                if shares(listed, row)[number] == 0:
                    tried += 1
                    shorter = without(listed, number)
                    for case in all_cases(listed[0]):
                        self.same(decision(shorter, row[:-1], case), decision(listed, row, case))
        self.assertGreater(tried, 10)

    def test_wrong_arguments(self):
        self.check_arguments(without, ("listed", LISTED, NOT_LISTS), ("number", 2, NOT_NUMBERS))
        for number in (0, -1, False, None):
            self.bad("number", without, ((4,), (), 0), number)


class PutInRowTest(RowsTest):

    def test_put_in_row(self):
        for listed in EDGE_LISTS + tuple(some_lists(13, 40)):
            widths, rules, rest = listed
            rows = all_rows(listed)
            for row in rows[:: len(rows) // 6 + 1] + [rows[-1]]:
                self.same(put_in_row(listed, row), (widths, tuple([rules[number] for number in row]), rest))

    def test_its_ascending_row_decides_as_the_row(self):
        for listed in some_lists(14, 20, most_rules=5, most_cases=30):
            for row in all_rows(listed)[::5]:
                other = put_in_row(listed, row)
                for case in all_cases(listed[0]):
                    self.same(decision(other, ascending(other), case), decision(listed, row, case))
                    place = decider(other, ascending(other), case)
                    self.same(None if place is None else row[place], decider(listed, row, case))

    def test_wrong_arguments(self):
        self.check_arguments(put_in_row, ("listed", LISTED, NOT_LISTS), ("row", (2, 0, 1), NOT_ROWS))
        for row in ((0,), [], None):
            self.bad("row", put_in_row, ((4,), (), 0), row)


class OtherCaseTest(RowsTest):

    def test_other_case(self):
        lists = list(EDGE_LISTS) + some_lists(15, 400, most_cases=16)
        tried = 0
        for first in lists:
            for second in lists:
                if first[0] == second[0]:
                    tried += 1
                    expected = None
                    for case in all_cases(first[0]):
                        one = deciding(first, ascending(first), case)[1]
                        if one != deciding(second, ascending(second), case)[1]:
                            expected = case
                            break
                    self.same(other_case(first, second), expected, (first, second))
        self.assertGreater(tried, 300)

    def test_rows_of_one_list(self):
        for listed in some_lists(16, 30, most_rules=4, most_cases=30):
            for row in all_rows(listed):
                self.same(other_case(listed, put_in_row(listed, row)), first_difference(listed, ascending(listed), row))
                self.same(other_case(put_in_row(listed, row), put_in_row(listed, row)), None)

    def test_other_numbers_of_rules_and_another_rest(self):
        self.same(other_case(((8,), (), 1), ((8,), ((1, ((2, 7),)),), 1)), None)
        self.same(other_case(((8,), (), 1), ((8,), ((2, ((2, 7),)),), 1)), (2,))
        self.same(other_case(((8,), (), 1), ((8,), (), 2)), (0,))
        self.same(other_case(((8,), ((2, ((0, 6),)),), 1), ((8,), (), 2)), (7,))
        self.same(other_case(((8,), ((2, ((0, 7),)),), 1), ((8,), (), 2)), None)
        self.same(other_case(WIDEST, (WIDEST[0], WIDEST[1], 5)), (0, 0, 0))

    def test_wrong_arguments(self):
        other_widths = (((4,), (), 0), ((3, 4), (), 0), ((4, 3, 1), (), 0), ((4, 4), (), 0), ((5, 3), (), 0))
        self.check_arguments(
            other_case, ("first", LISTED, NOT_LISTS), ("second", ((4, 3), (), 0), NOT_LISTS + other_widths)
        )

    def test_other_widths_are_wrong_in_the_second_one_only(self):
        one, two = ((4,), (), 0), ((5,), (), 0)
        self.bad("second", other_case, one, two)
        self.bad("second", other_case, two, one)
        self.bad("first", other_case, None, one)


class AllTest(RowsTest):

    def test_functions_are_defined_in_their_file(self):
        for name in ("without", "put_in_row", "other_case"):
            self.assertEqual(getattr(made, name).__module__, "rulerows.made")


if __name__ == "__main__":
    unittest.main()
