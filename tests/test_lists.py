"""lists.py: points 3 to 6, 9 to 12, 15 to 18."""

import itertools
import unittest

from rulerows import lists
from rulerows.lists import decider, decision, first_difference, is_list, matches, regions, shares
from tests.support import (
    EDGE_LISTS, LISTED, NOT_CASES, NOT_LISTS, NOT_NUMBERS, NOT_ROWS, WIDEST, RowsTest,
    all_cases, all_rows, ascending, deciding, deep, matching, some_lists,
)

EXAMPLE = ((4, 4), ((1, ((0, 1), (0, 3))), (2, ((1, 3), (1, 3)))), 0)


class IsListTest(RowsTest):

    def test_lists(self):
        for listed in EDGE_LISTS + (WIDEST, EXAMPLE):
            self.assertIs(is_list(listed), True, listed)

    def test_each_width_action_and_rest(self):
        for width in range(1, 9):
            for widths in ((width,), (1, width), (8, width, 8)):
                ranges = tuple([(0, one - 1) for one in widths])
                for action in range(6):
                    self.assertIs(is_list((widths, ((action, ranges),), 5 - action)), True)

    def test_each_range(self):
        for low, high in itertools.product(range(-1, 10), repeat=2):
            right = 0 <= low <= high < 8
            self.assertIs(is_list(((8,), ((1, ((low, high),)),), 0)), right, (low, high))
            self.assertIs(is_list(((1, 8), ((1, ((0, 0), (low, high))),), 0)), right, (low, high))

    def test_a_range_belongs_to_its_own_field(self):
        self.assertIs(is_list(((2, 6), ((1, ((0, 1), (0, 5))),), 0)), True)
        self.assertIs(is_list(((6, 2), ((1, ((0, 1), (0, 5))),), 0)), False)
        self.assertIs(is_list(((6, 2), ((1, ((0, 5), (0, 1))),), 0)), True)

    def test_numbers_of_rules(self):
        rule = (1, ((0, 3),))
        for many in range(8):
            self.assertIs(is_list(((4,), (rule,) * many, 0)), True, many)
        for many in (8, 9, 20):
            self.assertIs(is_list(((4,), (rule,) * many, 0)), False, many)

    def test_what_is_no_list(self):
        for value in NOT_LISTS:
            self.assertIs(is_list(value), False, value)

    def test_wrong_rule_in_each_place(self):
        good = (1, ((0, 3),))
        for wrong in ((6, ((0, 3),)), (1, ((0, 4),)), (1, ((True, 3),)), [1, ((0, 3),)]):
            for place in range(7):
                rules = (good,) * place + (wrong,) + (good,) * (6 - place)
                self.assertIs(is_list(((4,), rules, 0)), False, (wrong, place))

    def test_very_deep_values(self):
        down = deep()
        pairs = ()
        for _ in range(100000):
            pairs = (1, pairs)
        for value in (down, pairs, (down, down, down), ((4,), down, 0), ((4,), (down,), 0), ((down,), (), 0)):
            self.assertTrue(is_list(value) is False)
        for value in (((4,), (), down), ((4,), ((1, down),), 0), ((4,), ((down, ((0, 1),)),), 0)):
            self.assertTrue(is_list(value) is False)
        for value in (((4,), ((1, (down,)),), 0), ((4,), ((1, ((down, 1),)),), 0), ((4,), ((1, ((0, down),)),), 0)):
            self.assertTrue(is_list(value) is False)


class DecidingTest(RowsTest):

    def test_matches_at_the_ends_of_ranges(self):
        listed = ((8, 8), ((1, ((2, 4), (3, 3))),), 0)
        for case in all_cases((8, 8)):
            self.assertIs(matches(listed, 0, case), 2 <= case[0] <= 4 and case[1] == 3, case)

    def test_matches_decider_and_decision(self):
        for listed in EDGE_LISTS + tuple(some_lists(1, 40)):
            rows = all_rows(listed)
            for case in all_cases(listed[0])[::3]:
                found = matching(listed, case)
                for number in range(len(listed[1])):
                    self.assertIs(matches(listed, number, case), number in found)
                for row in rows[:: len(rows) // 8 + 1]:
                    number, action = deciding(listed, row, case)
                    self.same(decider(listed, row, case), number, (listed, row, case))
                    self.same(decision(listed, row, case), action, (listed, row, case))

    def test_the_first_rule_in_the_row_decides(self):
        listed = ((4,), ((1, ((0, 3),)), (2, ((0, 3),)), (3, ((0, 3),))), 0)
        for row in all_rows(listed):
            self.same(decider(listed, row, (2,)), row[0])
            self.same(decision(listed, row, (2,)), row[0] + 1)

    def test_no_rule_matches(self):
        self.same(decider(((8,), (), 5), (), (7,)), None)
        self.same(decision(((8,), (), 5), (), (7,)), 5)
        listed = ((8,), ((5, ((2, 2),)),), 3)
        self.same((decider(listed, (0,), (1,)), decision(listed, (0,), (1,))), (None, 3))
        self.same((decider(listed, (0,), (2,)), decision(listed, (0,), (2,))), (0, 5))

    def test_an_action_equal_to_the_rest_decides_all_the_same(self):
        listed = ((4,), ((3, ((0, 1),)), (1, ((0, 3),))), 3)
        self.same((decider(listed, (0, 1), (0,)), decision(listed, (0, 1), (0,))), (0, 3))
        self.same((decider(listed, (0, 1), (2,)), decision(listed, (0, 1), (2,))), (1, 1))

    def test_another_sequence_behind_the_decider_changes_nothing(self):
        for listed in some_lists(2, 12, most_rules=5, most_cases=20):
            for row in all_rows(listed)[::5]:
                for case in all_cases(listed[0]):
                    place = row.index(decider(listed, row, case)) if decider(listed, row, case) is not None else None
                    if place is not None:
                        other = row[: place + 1] + row[: place: -1]
                        self.same(decider(listed, other, case), row[place])
                        self.same(decision(listed, other, case), decision(listed, row, case))

    def test_wrong_arguments(self):
        listed, number = ("listed", LISTED, NOT_LISTS), ("number", 2, NOT_NUMBERS)
        row, case = ("row", (2, 0, 1), NOT_ROWS), ("case", (3, 2), NOT_CASES)
        self.check_arguments(matches, listed, number, case)
        self.check_arguments(decision, listed, row, case)
        self.check_arguments(decider, listed, row, case)

    def test_no_rules_have_no_numbers_and_one_row(self):
        empty = ((4,), (), 0)
        for number in (0, -1, 1, None, False):
            self.bad("number", matches, empty, number, (0,))
        for row in ((0,), [], None, (None,), 0, False):
            self.bad("row", decision, empty, row, (0,))
            self.bad("row", decider, empty, row, (0,))
            self.bad("row", shares, empty, row)
        self.same(decision(empty, (), (3,)), 0)

    def test_cases_of_other_numbers_of_fields(self):
        one, three = ((1,), (), 2), ((1, 8, 2), (), 3)
        self.same((decision(one, (), (0,)), decision(three, (), (0, 7, 1))), (2, 3))
        for case in ((1,), (), (0, 0), (-1,), (False,), [0], 0):
            self.bad("case", decision, one, (), case)
        for case in ((1, 7, 1), (0, 8, 1), (0, 7, 2), (0, 7), (0, 7, 1, 0), (0, 7, True), (0, False, 1), [0, 7, 1]):
            self.bad("case", decision, three, (), case)
            self.bad("case", decider, three, (), case)


class SharesTest(RowsTest):

    def test_shares(self):
        for listed in EDGE_LISTS + tuple(some_lists(3, 60)):
            rows = all_rows(listed)
            cases = all_cases(listed[0])
            for row in rows[:: len(rows) // 4 + 1]:
                found = [deciding(listed, row, case)[0] for case in cases]
                expected = tuple([found.count(number) for number in range(len(row))]) + (found.count(None),)
                self.same(shares(listed, row), expected, (listed, row))

    def test_all_shares_together_are_all_cases(self):
        for listed in EDGE_LISTS + (WIDEST,) + tuple(some_lists(4, 20)):
            for row in (ascending(listed), ascending(listed)[::-1]):
                got = shares(listed, row)
                self.same(sum(got), len(all_cases(listed[0])))
                self.same(got[-1], len([case for case in all_cases(listed[0]) if not matching(listed, case)]))

    def test_shares_stand_by_the_numbers_of_the_rules(self):
        listed = ((8,), ((1, ((0, 0),)), (1, ((1, 2),)), (1, ((3, 5),))), 0)
        for row in all_rows(listed):
            self.same(shares(listed, row), (1, 2, 3, 2))

    def test_no_rules(self):
        self.same(shares(((8, 2), (), 1), ()), (16,))

    def test_wrong_arguments(self):
        self.check_arguments(shares, ("listed", LISTED, NOT_LISTS), ("row", (2, 0, 1), NOT_ROWS))


class FirstDifferenceTest(RowsTest):

    def test_first_difference(self):
        for listed in EDGE_LISTS + tuple(some_lists(5, 60)):
            rows = all_rows(listed)
            rows = rows[:: len(rows) // 5 + 1]
            for first, second in itertools.product(rows, repeat=2):
                expected = None
                for case in all_cases(listed[0]):
                    if deciding(listed, first, case)[1] != deciding(listed, second, case)[1]:
                        expected = case
                        break
                self.same(first_difference(listed, first, second), expected, (listed, first, second))

    def test_other_deciders_with_the_same_action_are_no_difference(self):
        listed = ((4,), ((1, ((0, 2),)), (1, ((1, 3),)), (1, ((2, 2),))), 0)
        for first, second in itertools.product(all_rows(listed), repeat=2):
            self.same(first_difference(listed, first, second), None)
        self.assertNotEqual(decider(listed, (0, 1, 2), (1,)), decider(listed, (1, 0, 2), (1,)))

    def test_the_first_case_in_ascending_order(self):
        rules = ((1, ((1, 3), (0, 1))), (2, ((1, 3), (0, 3))))
        self.same(first_difference(((4, 4), rules, 0), (0, 1), (1, 0)), (1, 0))
        rules = ((1, ((0, 3), (2, 3))), (2, ((0, 3), (1, 3))))
        self.same(first_difference(((4, 4), rules, 0), (0, 1), (1, 0)), (0, 2))
        rules = ((1, ((7, 7), (7, 7), (7, 7))), (2, ((7, 7), (7, 7), (6, 7))))
        self.same(first_difference(((8, 8, 8), rules, 0), (0, 1), (1, 0)), (7, 7, 7))

    def test_neighbours_that_can_be_exchanged(self):
        for listed in some_lists(6, 40, most_rules=5, most_cases=30):
            cases = all_cases(listed[0])
            for row in all_rows(listed)[::7]:
                for place in range(len(row) - 1):
                    ahead, behind = row[place: place + 2]
                    other = row[:place] + (behind, ahead) + row[place + 2:]
                    common = [case for case in cases if matches(listed, ahead, case) and matches(listed, behind, case)]
                    if listed[1][ahead][0] == listed[1][behind][0] or not common:
                        self.same(first_difference(listed, row, other), None)

    def test_wrong_arguments(self):
        listed = ("listed", LISTED, NOT_LISTS)
        self.check_arguments(
            first_difference, listed, ("first", (2, 0, 1), NOT_ROWS), ("second", (0, 1, 2), NOT_ROWS)
        )


class RegionsTest(RowsTest):

    def test_regions(self):
        for listed in EDGE_LISTS + (WIDEST,) + tuple(some_lists(7, 80)):
            found = [matching(listed, case) for case in all_cases(listed[0])]
            expected = tuple([(chosen, found.count(chosen)) for chosen in sorted(set(found))])
            self.same(regions(listed), expected, listed)

    def test_regions_are_ascending_as_tuples(self):
        listed = ((8,), ((1, ((2, 5),)), (2, ((0, 3),)), (1, ((3, 4),))), 0)
        self.same(regions(listed), (((), 2), ((0,), 1), ((0, 1), 1), ((0, 1, 2), 1), ((0, 2), 1), ((1,), 2)))

    def test_one_region(self):
        self.same(regions(((3, 2), (), 0)), (((), 6),))
        self.same(regions(((1,), ((1, ((0, 0),)),), 0)), (((0,), 1),))

    def test_cases_with_the_same_region_have_the_same_decider(self):
        for listed in some_lists(8, 15, most_rules=4, most_cases=30):
            for row in all_rows(listed):
                deciders = {}
                for case in all_cases(listed[0]):
                    region = tuple([number for number in range(len(row)) if matches(listed, number, case)])
                    number = decider(listed, row, case)
                    self.same(deciders.setdefault(region, number), number)

    def test_wrong_arguments(self):
        self.check_arguments(regions, ("listed", LISTED, NOT_LISTS))


class AllTest(RowsTest):

    def test_equal_calls_return_equal_results(self):
        def copied():
            return ((4, 4), ((1, ((0, 1), (0, 3))), (2, ((1, 3), (1, 3)))), 0)

        for _ in range(3):
            self.same(regions(copied()), (((), 2), ((0,), 5), ((0, 1), 3), ((1,), 6)))
            self.same(shares(copied(), (1, 0)), (5, 9, 2))
            self.bad("row", shares, copied(), (0, 2))

    def test_functions_are_defined_in_their_file(self):
        for name in ("is_list", "matches", "decision", "decider", "shares", "first_difference", "regions"):
            self.assertEqual(getattr(lists, name).__module__, "rulerows.lists")

    def test_example_of_point_18(self):
        self.same(decision(EXAMPLE, (0, 1), (1, 2)), 1)
        self.same(decision(EXAMPLE, (1, 0), (1, 2)), 2)

    def test_examples_of_the_interface(self):
        self.check_examples("""
>>> from rulerows.lists import decider, decision, first_difference, matches, regions, shares
>>> from rulerows.made import other_case, put_in_row, without
>>> listed = ((4, 4), ((1, ((0, 1), (0, 3))), (2, ((1, 3), (1, 3)))), 0)
>>> decision(listed, (0, 1), (1, 2)), decider(listed, (1, 0), (1, 2)), decider(listed, (0, 1), (3, 0)), matches(listed, 1, (1, 0))
(1, 1, None, False)
>>> shares(listed, (0, 1)), shares(listed, (1, 0)), first_difference(listed, (0, 1), (1, 0))
((8, 6, 2), (5, 9, 2), (1, 1))
>>> regions(listed)
(((), 2), ((0,), 5), ((0, 1), 3), ((1,), 6))
>>> without(listed, 0), put_in_row(listed, (1, 0))
(((4, 4), ((2, ((1, 3), (1, 3))),), 0), ((4, 4), ((2, ((1, 3), (1, 3))), (1, ((0, 1), (0, 3)))), 0))
>>> other_case(listed, put_in_row(listed, (1, 0))), other_case(listed, listed) is None
((1, 1), True)
""")


if __name__ == "__main__":
    unittest.main()
