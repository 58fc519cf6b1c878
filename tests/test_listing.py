"""listing.py: points 73, 80 and 81."""

import random
import unittest

from rulerows import listing as listing_file
from rulerows.counting import count_rows
from rulerows.listing import index_of_row, nth_row, rows_from
from tests.support import (
    EDGE_LISTS, LISTED, LOOSE, LOOSE_LIST, NOT_INDEXES, NOT_LISTS, NOT_ROWS, NOT_WANTED, NO_RULES, ODD_VALUES,
    ONE_RULE, ONLY_TWO, SEVEN_CHAINED, SEVEN_FREE, SOME, SOME_WANTED, THREE, TWO, WIDEST, WIDE_THIRTEEN,
    WIDE_TWELVE, RowsTest,
    all_rows, ascending, crowded_goals, deep, goals_with_rows, goals_without_rows, kinds, right_rows, some_lists,
    some_wanted,
)

ANY = ("cases", ())
LISTED_ARGUMENT = ("listed", LISTED, NOT_LISTS)


class IndexTest(RowsTest):

    def test_each_right_row(self):
        tried = 0
        for listed, wanted, rows in goals_with_rows(181, 150) + crowded_goals(182, 8):
            for index, row in enumerate(rows):
                tried += index > 0
                self.same(nth_row(listed, wanted, index), row, (listed, wanted, index))
                self.same(index_of_row(listed, wanted, row), index, (listed, wanted, row))
            for index in (len(rows), len(rows) + 1, -1, 10 ** 30):
                self.bad("index", nth_row, listed, wanted, index)
        self.assertGreater(tried, 300)

    def test_seven_rules(self):
        rng = random.Random(183)
        for listed, wanted, rows in goals_with_rows(184, 25, 7, 24):
            for _ in range(6):
                index = rng.randrange(len(rows))
                self.same(nth_row(listed, wanted, index), rows[index], (listed, wanted, index))
                self.same(index_of_row(listed, wanted, rows[index]), index)
            self.same(nth_row(listed, wanted, len(rows) - 1), rows[-1])
            self.bad("index", nth_row, listed, wanted, len(rows))
        self.same(nth_row(SEVEN_FREE, ANY, 5039), (6, 5, 4, 3, 2, 1, 0))
        self.same(nth_row(SEVEN_FREE, ANY, 0), (0, 1, 2, 3, 4, 5, 6))
        self.same(nth_row(SEVEN_FREE, ANY, 720), (1, 0, 2, 3, 4, 5, 6))
        self.same(index_of_row(SEVEN_FREE, ANY, (6, 5, 4, 3, 2, 1, 0)), 5039)
        self.same(index_of_row(SEVEN_FREE, ANY, (1, 0, 2, 3, 4, 5, 6)), 720)
        self.bad("index", nth_row, SEVEN_FREE, ANY, 5040)
        self.same(nth_row(SEVEN_CHAINED, ("self",), 0), (0, 1, 2, 3, 4, 5, 6))
        self.bad("index", nth_row, SEVEN_CHAINED, ("self",), 1)

    def test_with_self_the_ascending_row_has_the_index_0(self):
        for listed in EDGE_LISTS + (WIDEST, NO_RULES, ONE_RULE) + tuple(some_lists(185, 60)):
            self.same(nth_row(listed, ("self",), 0), ascending(listed))
            self.same(index_of_row(listed, ("self",), ascending(listed)), 0)

    def test_rows_that_are_not_right_have_no_index(self):
        tried = 0
        for listed, wanted in some_wanted(186, 100):
            rows = right_rows(listed, wanted)
            for row in all_rows(listed):
                if row not in rows:
                    tried += 1
                    self.same(index_of_row(listed, wanted, row), None)
        self.assertGreater(tried, 200)

    def test_values_of_other_kinds_have_no_index(self):
        for wanted in SOME_WANTED + (ANY,):
            for value in ODD_VALUES + NOT_ROWS + ([0, 1, 2], (0, True, 2), (False, 1, 2), (False, True, 2)):
                self.same(index_of_row(LISTED, wanted, value), None, value)
        for value in ODD_VALUES:
            expected = 0 if kinds(value) == kinds(()) else None
            self.same(index_of_row(NO_RULES, ("self",), value), expected, value)
        self.same(index_of_row(TWO, ANY, (True, False)), None)
        self.same(index_of_row(TWO, ANY, (1, 0)), 1)

    def test_very_deep_values(self):
        down = deep()
        for value in (down, (down, 0), (0, down), [down]):
            self.assertTrue(index_of_row(TWO, ANY, value) is None)

    def test_no_right_row(self):
        goals = goals_without_rows(187, 60) + [(LOOSE_LIST, LOOSE), (NO_RULES, ("cases", (((1,), 3),)))]
        for listed, wanted in goals:
            for index in (0, 1, -1):
                self.bad("index", nth_row, listed, wanted, index)
            for row in all_rows(listed):
                self.same(index_of_row(listed, wanted, row), None)

    def test_wrong_arguments(self):
        for wanted in SOME_WANTED + (("cases", (((0, 0), 5),)),):
            told = LISTED_ARGUMENT, ("wanted", wanted, NOT_WANTED)
            many = count_rows(LISTED, wanted)
            self.check_arguments(nth_row, *told, ("index", 0, NOT_INDEXES + (many, many + 1, 5040)))
            for value in ((0, 1, 2), None, ["row"]):
                self.check_arguments(index_of_row, *told, ("value", value, ()))


class RowsFromTest(RowsTest):

    def test_from_each_index(self):
        for listed, wanted, rows in goals_with_rows(188, 80) + crowded_goals(189, 4):
            for index in list(range(0, len(rows) + 3, 1 + len(rows) // 12)) + [len(rows) - 1, len(rows), 10000]:
                for many in (0, 1, 2, 5, 19, 20):
                    expected = rows[index:index + many]
                    self.same(rows_from(listed, wanted, index, many), expected, (listed, wanted, index, many))

    def test_at_and_behind_the_end(self):
        self.same(rows_from(THREE, ONLY_TWO, 0, 2), [(0, 1, 2), (0, 2, 1)])
        self.same(rows_from(THREE, ONLY_TWO, 2, 20), [(2, 0, 1)])
        self.same(rows_from(THREE, ONLY_TWO, 2, 1), [(2, 0, 1)])
        self.same(rows_from(THREE, ONLY_TWO, 2, 0), [])
        self.same(rows_from(THREE, ONLY_TWO, 3, 20), [])
        self.same(rows_from(THREE, ONLY_TWO, 4, 20), [])
        self.same(rows_from(THREE, ONLY_TWO, 10000, 20), [])
        self.bad("index", rows_from, THREE, ONLY_TWO, 10001, 20)
        self.bad("many", rows_from, THREE, ONLY_TWO, 0, 21)
        self.bad("many", rows_from, THREE, ONLY_TWO, 10000, 21)

    def test_seven_rules(self):
        rows = all_rows(SEVEN_FREE)
        self.same(rows_from(SEVEN_FREE, ANY, 5030, 20), rows[5030:])
        self.same(rows_from(SEVEN_FREE, ANY, 5020, 20), rows[5020:])
        self.same(rows_from(SEVEN_FREE, ANY, 5019, 20), rows[5019:5039])
        self.same(rows_from(SEVEN_FREE, ANY, 5039, 20), [(6, 5, 4, 3, 2, 1, 0)])
        self.same(rows_from(SEVEN_FREE, ANY, 5040, 20), [])
        self.same(rows_from(SEVEN_CHAINED, ("self",), 0, 20), [(0, 1, 2, 3, 4, 5, 6)])

    def test_few_rules_and_no_right_row(self):
        self.same(rows_from(NO_RULES, ("self",), 0, 20), [()])
        self.same(rows_from(NO_RULES, ("self",), 1, 20), [])
        self.same(rows_from(NO_RULES, ("cases", (((1,), 3),)), 0, 20), [])
        self.same(rows_from(LOOSE_LIST, LOOSE, 0, 20), [])
        for listed, wanted in goals_without_rows(190, 60):
            self.same(rows_from(listed, wanted, 0, 20), [])

    def test_the_list_is_new_each_time(self):
        self.check_new_list(rows_from, SOME, ("self",), 0, 20)
        self.check_new_list(rows_from, SOME, ("self",), 10, 20)

    def test_wrong_arguments(self):
        for wanted in SOME_WANTED + (("cases", (((0, 0), 5),)),):
            told = LISTED_ARGUMENT, ("wanted", wanted, NOT_WANTED)
            indexes = ("index", 10000, NOT_INDEXES + (10001, 10002))
            self.check_arguments(rows_from, *told, indexes, ("many", 20, NOT_INDEXES + (21, 22)))
            self.check_arguments(rows_from, *told, ("index", 0, NOT_INDEXES), ("many", 0, NOT_INDEXES))


class AllTest(RowsTest):

    def test_functions_are_defined_in_their_file(self):
        for name in ("nth_row", "index_of_row", "rows_from"):
            self.assertEqual(getattr(listing_file, name).__module__, "rulerows.listing")

    def test_twelve_pairs_and_thirteen(self):
        listed = ((8, 8), ((2, ((2, 2), (3, 3))), (1, ((0, 7), (0, 7)))), 0)
        twelve, thirteen = ("cases", WIDE_TWELVE), ("cases", WIDE_THIRTEEN)
        self.same(nth_row(listed, twelve, 0), (1, 0))
        self.same(index_of_row(listed, twelve, (1, 0)), 0)
        self.same(index_of_row(listed, twelve, (0, 1)), None)
        self.same(rows_from(listed, twelve, 0, 20), [(1, 0)])
        self.bad("wanted", nth_row, listed, thirteen, 0)
        self.bad("wanted", index_of_row, listed, thirteen, (1, 0))
        self.bad("wanted", rows_from, listed, thirteen, 0, 20)

    def test_example_of_point_82(self):
        self.same(rows_from(THREE, ("self",), 0, 20), [(0, 1, 2)])
        rows = rows_from(THREE, ONLY_TWO, 0, 20)
        self.same(len(rows), 3)
        self.same([row.index(0) < row.index(1) for row in rows], [True] * 3)

    def test_examples_of_the_interface(self):
        self.check_examples("""
>>> from rulerows.counting import count_at, count_before, count_beginning, count_rows, sets_first
>>> from rulerows.listing import index_of_row, nth_row, rows_from
>>> three = ((8,), ((1, ((0, 3),)), (2, ((2, 5),)), (1, ((5, 7),))), 0)
>>> some = ("cases", (((2,), 1),))
>>> count_rows(three, ("self",)), count_rows(three, some), count_rows(three, ("cases", ()))
(1, 3, 6)
>>> rows_from(three, some, 0, 5), index_of_row(three, some, (2, 0, 1)), index_of_row(three, some, (1, 0, 2)) is None
([(0, 1, 2), (0, 2, 1), (2, 0, 1)], 2, True)
>>> count_beginning(three, some, (2,)), count_at(three, some, 0, 1), count_before(three, some, 2, 1)
(1, 1, 2)
>>> sets_first(three, some), nth_row(three, some, 1)
([(), (0,), (2,), (0, 1), (0, 2), (0, 1, 2)], (0, 2, 1))
>>> count_rows(((4,), (), 0), ("cases", (((1,), 3),))), sets_first(((4,), (), 0), ("cases", (((1,), 3),)))
(0, [()])
""")


if __name__ == "__main__":
    unittest.main()
