"""writing.py: points 112 to 115."""

import random
import unittest

from rulerows import writing as writing_file
from rulerows.reading import read_case, read_list, read_row
from rulerows.scanning import scan
from rulerows.writing import case_text, list_text, row_text
from tests.support import (
    EDGE_LISTS, LISTED, NOT_CASES, NOT_LISTS, NOT_ROWS, NO_RULES, ONE_RULE, SEVEN_CHAINED, SEVEN_FREE, WIDEST, RowsTest,
    all_cases, all_rows, deep, some_lists,
)

LISTED_ARGUMENT = ("listed", LISTED, NOT_LISTS)
LISTS = EDGE_LISTS + (WIDEST, NO_RULES, ONE_RULE, SEVEN_CHAINED, SEVEN_FREE) + tuple(some_lists(391, 200, 7, 512))


def written(listed):
    """The text by the words of point 112."""
    widths, rules, rest = listed
    text = ""
    for place, width in enumerate(widths):
        text += (" " if place else "") + str(width)
    text += ":"
    for action, ranges in rules:
        text += f" {action} if"
        for width, (low, high) in zip(widths, ranges):
            text += " "
            if high - low + 1 == width:
                text += "*"
            elif low == high:
                text += f"{low}"
            else:
                text += f"{low}..{high}"
        text += ";"
    return text + f" else {rest}"


class ListTest(RowsTest):

    def test_each_list(self):
        for listed in LISTS:
            text = list_text(listed)
            self.same(text, written(listed))
            self.same(read_list(text), listed)
            self.assertLessEqual(len(text), 400)

    def test_spaces_change_nothing(self):
        rng = random.Random(392)
        for listed in LISTS[:80]:
            text = list_text(listed)
            # Between numbers and words a blank has to stay; elsewhere there may be none.
            parts = [characters for _, characters, _ in scan(text)[:-1]]
            spread = " " * rng.randrange(3)
            for part, behind in zip(parts, parts[1:] + [""]):
                needed = part.isdigit() and behind.isdigit()
                spread += part + " " * (needed + rng.choice((0, 0, 1)))
            if len(spread) <= 400:
                self.same(read_list(spread), listed, spread)

    def test_lists_told_in_one_way(self):
        for listed, text in (
                (((8, 1), ((5, ((2, 2), (0, 0))),), 3), "8 1: 5 if 2 *; else 3"),
                (((1,), (), 0), "1: else 0"), (((8, 8, 8), (), 5), "8 8 8: else 5"),
                (((1, 1, 1), ((0, ((0, 0), (0, 0), (0, 0))),), 1), "1 1 1: 0 if * * *; else 1"),
                (((2,), ((0, ((0, 0),)), (1, ((1, 1),)), (2, ((0, 1),))), 1), "2: 0 if 0; 1 if 1; 2 if *; else 1"),
                (((8, 3), ((0, ((0, 6), (1, 2))), (1, ((1, 7), (0, 1)))), 1), "8 3: 0 if 0..6 1..2; 1 if 1..7 0..1; else 1"),
                (((4, 8), ((5, ((0, 3), (0, 3))),), 5), "4 8: 5 if * 0..3; else 5")):
            self.same(list_text(listed), text)
            self.same(read_list(text), listed)

    def test_reading_and_writing_leaves_one_way(self):
        for text, one_way in (
                ("04:1 if 0..3;else 00", "4: 1 if *; else 0"), ("8 8:1 if 3..3 0..7; else 0", "8 8: 1 if 3 *; else 0"),
                ("  1  :  0  if  0  ;  else  5  ", "1: 0 if *; else 5"), ("1: 0 if 0..0; else 5", "1: 0 if *; else 5")):
            self.same(list_text(read_list(text)), one_way)

    def test_wrong_arguments(self):
        self.check_arguments(list_text, LISTED_ARGUMENT)


class RowAndCaseTest(RowsTest):

    def test_each_row_and_each_case(self):
        for listed in LISTS[:60]:
            for row in all_rows(listed)[::97]:
                self.same(row_text(listed, row), "".join([" " + str(number) for number in row])[1:])
                self.same(read_row(listed, row_text(listed, row)), row)
            for case in all_cases(listed[0])[::7]:
                self.same(case_text(listed, case), "".join([" " + str(value) for value in case])[1:])
                self.same(read_case(listed, case_text(listed, case)), case)

    def test_rows_and_cases_told(self):
        self.same(row_text(LISTED, (2, 0, 1)), "2 0 1")
        self.same(row_text(NO_RULES, ()), "")
        self.same(row_text(ONE_RULE, (0,)), "0")
        self.same(row_text(SEVEN_FREE, (6, 5, 4, 3, 2, 1, 0)), "6 5 4 3 2 1 0")
        self.same(case_text(LISTED, (3, 2)), "3 2")
        self.same(case_text(NO_RULES, (0,)), "0")
        self.same(case_text(WIDEST, (7, 0, 7)), "7 0 7")

    def test_wrong_arguments(self):
        for row in ((0, 1, 2), (2, 1, 0)):
            self.check_arguments(row_text, LISTED_ARGUMENT, ("row", row, NOT_ROWS))
        for case in ((0, 0), (3, 2)):
            self.check_arguments(case_text, LISTED_ARGUMENT, ("case", case, NOT_CASES))
        self.bad("listed", list_text, deep())
        self.bad("row", row_text, LISTED, deep())
        self.bad("case", case_text, LISTED, deep())


class AllTest(RowsTest):

    def test_functions_are_defined_in_their_file(self):
        for name in ("list_text", "row_text", "case_text"):
            self.assertEqual(getattr(writing_file, name).__module__, "rulerows.writing")

    def test_example_of_point_115(self):
        listed = ((4, 4), ((1, ((0, 1), (0, 3))), (2, ((1, 3), (1, 3)))), 0)
        self.same(list_text(listed), "4 4: 1 if 0..1 *; 2 if 1..3 1..3; else 0")

    def test_examples_of_the_interface(self):
        self.check_examples("""
>>> from rulerows.writing import case_text, list_text, row_text
>>> listed = ((4, 4), ((1, ((0, 1), (0, 3))), (2, ((1, 3), (1, 3)))), 0)
>>> list_text(((8, 1), ((5, ((2, 2), (0, 0))),), 3)), row_text(listed, (1, 0)), case_text(listed, (0, 2))
('8 1: 5 if 2 *; else 3', '1 0', '0 2')
""")


if __name__ == "__main__":
    unittest.main()
