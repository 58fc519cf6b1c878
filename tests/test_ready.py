"""ready.py: points 39 to 42 and 46 to 49."""

import itertools
import random
import unittest

from rulerows import ready as ready_file
from rulerows.ready import can_come_first, first_row, placed_without, ready, row_beginning
from rulerows.wanted import is_right
from tests.support import (
    EDGE_LISTS, LISTED, NOT_BEGINNINGS, NOT_LISTS, NOT_NUMBERS, NOT_SETS, NOT_WANTED, SOME_WANTED, WIDE_THIRTEEN, WIDE_TWELVE,
    WIDEST, RowsTest,
    all_sets, ascending, random_rule, ready_after, right_rows, some_lists, some_wanted, unmet_cases,
)

TWO = ((4,), ((1, ((0, 2),)), (2, ((1, 3),))), 0)
SWAPPED = ("cases", (((0,), 1), ((1,), 2), ((3,), 2)))
AGAINST = ("cases", (((1,), 3),))


def beginnings(listed):
    numbers = range(len(listed[1]))
    return [rules for many in range(len(numbers) + 1) for rules in itertools.permutations(numbers, many)]


def in_turn(listed, wanted, rules):
    return all(rules[place] in ready_after(listed, wanted, rules[:place]) for place in range(len(rules)))


class ReadyTest(RowsTest):

    def test_after_each_set(self):
        for listed, wanted in some_wanted(61, 100, 5):
            for chosen in all_sets(listed):
                self.same(ready(listed, wanted, chosen), ready_after(listed, wanted, chosen), (listed, wanted, chosen))

    def test_seven_rules_and_many_cases(self):
        rng = random.Random(62)
        for listed, wanted in some_wanted(63, 20, 7) + [(WIDEST, ("self",)), (EDGE_LISTS[5], ("self",))]:
            for chosen in rng.sample(all_sets(listed), min(6, 2 ** len(listed[1]))):
                self.same(ready(listed, wanted, chosen), ready_after(listed, wanted, chosen), (listed, wanted, chosen))

    def test_all_rules_are_chosen(self):
        for listed in EDGE_LISTS:
            self.same(ready(listed, ("self",), ascending(listed)), ())
            self.same(ready(listed, ("cases", ()), ascending(listed)), ())
            self.same(ready(listed, ("cases", ()), ()), ascending(listed))

    def test_unmet_cases_do_not_count(self):
        self.same(ready(((4,), ((1, ((0, 1),)),), 0), ("cases", (((0,), 1), ((3,), 5))), ()), (0,))

    def test_a_rule_whose_cases_nobody_wants_is_ready(self):
        self.same(ready(TWO, ("cases", (((0,), 2),)), ()), (1,))
        self.same(ready(TWO, ("cases", (((3,), 0),)), ()), (0,))

    def test_ready_stays_ready_after_a_larger_set(self):
        for listed, wanted in some_wanted(64, 60, 5):
            for chosen in all_sets(listed):
                for number in ascending(listed):
                    if number not in chosen:
                        larger = tuple(sorted((*chosen, number)))
                        stays = set(ready(listed, wanted, chosen)) - {number}
                        self.assertLessEqual(stays, set(ready(listed, wanted, larger)))

    def test_if_further_cases_are_wanted_no_rule_becomes_ready(self):
        tried = 0
        for listed, wanted in some_wanted(65, 100, 5):
            if wanted[0] == "cases":
                for many in range(len(wanted[1])):
                    for chosen in all_sets(listed):
                        tried += 1
                        fewer = ready(listed, ("cases", wanted[1][:many]), chosen)
                        self.assertLessEqual(set(ready(listed, wanted, chosen)), set(fewer))
        self.assertGreater(tried, 100)

    def test_wrong_arguments(self):
        listed = ("listed", LISTED, NOT_LISTS)
        for wanted in SOME_WANTED:
            for function in (ready, can_come_first):
                self.check_arguments(function, listed, ("wanted", wanted, NOT_WANTED), ("chosen", (0, 2), NOT_SETS))
        for function in (ready, can_come_first):
            for chosen in ((0,), [], None):
                self.bad("chosen", function, ((4,), (), 0), ("self",), chosen)


class ComingFirstTest(RowsTest):

    def test_each_set(self):
        tried = {True: 0, False: 0}
        for listed, wanted in some_wanted(66, 100, 4):
            for chosen in all_sets(listed):
                expected = any(in_turn(listed, wanted, rules) for rules in itertools.permutations(chosen))
                tried[expected] += 1
                self.same(can_come_first(listed, wanted, chosen), expected, (listed, wanted, chosen))
        self.assertGreater(min(tried.values()), 100)

    def test_the_empty_set_can(self):
        for wanted in SOME_WANTED + (("cases", (((0, 0), 5),)), ("cases", (((3, 0), 5),))):
            self.same(can_come_first(LISTED, wanted, ()), True)
        self.same(can_come_first(((4,), (), 0), ("cases", (((1,), 3),)), ()), True)

    def test_unmet_cases_do_not_count(self):
        listed = ((4,), ((1, ((0, 1),)),), 0)
        self.same(can_come_first(listed, ("cases", (((0,), 1), ((3,), 5))), (0,)), True)
        self.same(can_come_first(listed, ("cases", (((0,), 2), ((3,), 5))), (0,)), False)

    def test_only_rules_of_the_set_help(self):
        # Rule 1 needs rule 0 ahead, and rule 2 needs rule 1.
        chain = ((8,), ((1, ((0, 3),)), (2, ((2, 5),)), (1, ((5, 7),))), 0)
        able = [chosen for chosen in all_sets(chain) if can_come_first(chain, ("self",), chosen)]
        self.same(able, [(), (0,), (0, 1), (0, 1, 2)])

    def test_the_sequence_need_not_ascend(self):
        self.same(can_come_first(TWO, SWAPPED, (0, 1)), True)
        self.same(can_come_first(TWO, SWAPPED, (0,)), False)
        self.same(can_come_first(TWO, SWAPPED, (1,)), True)

    def test_two_sets_together(self):
        for listed, wanted in some_wanted(67, 60, 5):
            able = [chosen for chosen in all_sets(listed) if can_come_first(listed, wanted, chosen)]
            for one, other in itertools.product(able[::2], able):
                self.same(can_come_first(listed, wanted, tuple(sorted({*one, *other}))), True)

    def test_each_sequence_of_ready_rules_ends_with_the_whole_set(self):
        rng = random.Random(68)
        for listed, wanted in some_wanted(69, 60, 6):
            for chosen in all_sets(listed)[::3]:
                if can_come_first(listed, wanted, chosen):
                    placed = ()
                    while [number for number in ready(listed, wanted, placed) if number in chosen]:
                        able = [number for number in ready(listed, wanted, placed) if number in chosen]
                        placed = tuple(sorted((*placed, rng.choice(able))))
                    self.same(placed, chosen)


class FirstRowTest(RowsTest):

    def test_first_row(self):
        tried = {True: 0, False: 0}
        for listed, wanted in some_wanted(70, 250, 5):
            rows = right_rows(listed, wanted)
            tried[bool(rows)] += 1
            self.same(first_row(listed, wanted), rows[0] if rows else None, (listed, wanted))
            all_can = can_come_first(listed, wanted, ascending(listed))
            self.same(bool(rows), all_can and not unmet_cases(listed, wanted))
        self.assertGreater(min(tried.values()), 40)

    def test_seven_rules(self):
        for listed, wanted in [found for found in some_wanted(71, 60, 7, 16) if len(found[0][1]) == 7][:6]:
            rows = right_rows(listed, wanted)
            self.same(first_row(listed, wanted), rows[0] if rows else None, (listed, wanted))
        self.same(first_row(EDGE_LISTS[4], ("cases", ())), (0, 1, 2, 3, 4, 5, 6))

    def test_a_right_row_is_one_of_rules_that_are_ready_in_their_turn(self):
        for listed, wanted in some_wanted(72, 60):
            for row in itertools.permutations(ascending(listed)):
                turns = [row[place] in ready(listed, wanted, tuple(sorted(row[:place]))) for place in range(len(row))]
                expected = all(turns) and not unmet_cases(listed, wanted)
                self.same(is_right(listed, wanted, row), expected)

    def test_with_self_there_is_always_a_right_row(self):
        for listed in EDGE_LISTS + (WIDEST,) + tuple(some_lists(73, 60)):
            row = first_row(listed, ("self",))
            self.same(row, ascending(listed))
            self.same(is_right(listed, ("self",), row), True)

    def test_rules_at_the_end_keep_the_ascending_row_right(self):
        rng = random.Random(74)
        for listed in some_lists(75, 40, most_rules=5):
            widths, rules, rest = listed
            longer = (widths, rules + (random_rule(rng, widths, 6), random_rule(rng, widths, 6)), rest)
            self.same(is_right(longer, ("self",), ascending(longer)), True)
            self.same(first_row(longer, ("self",)), ascending(longer))

    def test_unmet_cases(self):
        self.same(first_row(((4,), (), 0), ("cases", (((1,), 3),))), None)
        self.same(first_row(((4,), (), 3), ("cases", (((1,), 3),))), ())
        self.same(first_row(TWO, ("list", ((4,), ((1, ((0, 2),)),), 2))), (0, 1))
        self.same(first_row(((5,), TWO[1], 0), ("list", ((5,), ((1, ((0, 2),)),), 2))), None)

    def test_no_right_row(self):
        self.same(first_row(TWO, AGAINST), None)
        self.same(first_row(TWO, ("cases", (((1,), 1), ((2,), 2)))), None)

    def test_wrong_arguments(self):
        for wanted in SOME_WANTED:
            self.check_arguments(first_row, ("listed", LISTED, NOT_LISTS), ("wanted", wanted, NOT_WANTED))


class RowBeginningTest(RowsTest):

    def test_each_beginning(self):
        tried = {True: 0, False: 0}
        for listed, wanted in some_wanted(76, 120):
            rows = right_rows(listed, wanted)
            for rules in beginnings(listed):
                fitting = [row for row in rows if row[: len(rules)] == rules]
                tried[bool(fitting)] += 1
                self.same(row_beginning(listed, wanted, rules), fitting[0] if fitting else None, (listed, wanted, rules))
                if rows:
                    self.same(bool(fitting), in_turn(listed, wanted, rules))
        self.assertGreater(min(tried.values()), 100)

    def test_seven_rules(self):
        listed = EDGE_LISTS[4]
        self.same(row_beginning(listed, ("cases", ()), (6, 2)), (6, 2, 0, 1, 3, 4, 5))
        self.same(row_beginning(listed, ("self",), (6, 5, 4, 3, 2, 1, 0)), (6, 5, 4, 3, 2, 1, 0))

    def test_from_none_to_all_rules(self):
        self.same(row_beginning(TWO, SWAPPED, ()), (1, 0))
        self.same(row_beginning(TWO, SWAPPED, (1,)), (1, 0))
        self.same(row_beginning(TWO, SWAPPED, (1, 0)), (1, 0))
        self.same(row_beginning(TWO, SWAPPED, (0,)), None)
        self.same(row_beginning(TWO, SWAPPED, (0, 1)), None)
        self.same(row_beginning(((4,), (), 0), ("self",), ()), ())
        self.same(row_beginning(((4,), (), 0), ("cases", (((1,), 3),)), ()), None)

    def test_no_right_row(self):
        for rules in beginnings(TWO):
            self.same(row_beginning(TWO, AGAINST, rules), None)
        # Both rules are ready, but a case is unmet.
        unmet = ("cases", (((0,), 1), ((3,), 5)))
        listed = ((4,), ((1, ((0, 1),)), (2, ((1, 2),))), 0)
        for rules in beginnings(listed):
            self.same(row_beginning(listed, unmet, rules), None)

    def test_wrong_arguments(self):
        listed = ("listed", LISTED, NOT_LISTS)
        for wanted in SOME_WANTED:
            rules = ("rules", (2, 0), NOT_BEGINNINGS)
            self.check_arguments(row_beginning, listed, ("wanted", wanted, NOT_WANTED), rules)
        for rules in ((0,), [], None):
            self.bad("rules", row_beginning, ((4,), (), 0), ("self",), rules)


class PlacedWithoutTest(RowsTest):

    def test_each_rule(self):
        rng = random.Random(77)
        for listed, wanted in some_wanted(78, 150, 6):
            for number in ascending(listed):
                for _ in range(2):
                    placed = ()
                    able = [other for other in ready_after(listed, wanted, placed) if other != number]
                    while able:
                        placed = (*placed, rng.choice(able))
                        able = [other for other in ready_after(listed, wanted, placed) if other != number]
                    self.same(placed_without(listed, wanted, number), tuple(sorted(placed)), (listed, wanted, number))

    def test_it_ascends_though_rules_are_placed_otherwise(self):
        # Only rule 2 is ready at first, then rule 1, then rule 0.
        listed = ((8,), ((1, ((0, 7),)), (2, ((0, 5),)), (3, ((0, 3),)), (4, ((7, 7),))), 0)
        wanted = ("cases", (((0,), 3), ((4,), 2), ((6,), 1)))
        self.same(placed_without(listed, wanted, 3), (0, 1, 2))
        self.same(placed_without(listed, wanted, 0), (1, 2, 3))
        self.same(placed_without(listed, wanted, 1), (2, 3))
        self.same(placed_without(listed, wanted, 2), (3,))

    def test_a_rule_that_stands_last_in_no_right_row(self):
        tried = 0
        for listed, wanted in some_wanted(79, 150):
            rows = right_rows(listed, wanted)
            for number in ascending(listed):
                if len(placed_without(listed, wanted, number)) < len(listed[1]) - 1:
                    tried += 1
                    self.same([row for row in rows if row[-1] == number], [])
                elif rows:
                    self.assertNotEqual([row for row in rows if row[-1] == number], [])
        self.assertGreater(tried, 50)

    def test_unmet_cases_do_not_count(self):
        listed = ((4,), ((1, ((0, 1),)), (2, ((1, 2),))), 0)
        self.same(placed_without(listed, ("cases", (((0,), 1), ((3,), 5))), 1), (0,))

    def test_one_rule(self):
        self.same(placed_without(((4,), ((1, ((0, 1),)),), 0), ("self",), 0), ())

    def test_wrong_arguments(self):
        listed, number = ("listed", LISTED, NOT_LISTS), ("number", 2, NOT_NUMBERS)
        for wanted in SOME_WANTED:
            self.check_arguments(placed_without, listed, ("wanted", wanted, NOT_WANTED), number)
        for wrong in (0, -1, None, False):
            self.bad("number", placed_without, ((4,), (), 0), ("self",), wrong)


class AllTest(RowsTest):

    def test_functions_are_defined_in_their_file(self):
        for name in ("ready", "can_come_first", "first_row", "row_beginning", "placed_without"):
            self.assertEqual(getattr(ready_file, name).__module__, "rulerows.ready")

    def test_twelve_pairs_and_thirteen(self):
        twelve, thirteen = ("cases", WIDE_TWELVE), ("cases", WIDE_THIRTEEN)
        listed = ((8, 8), ((2, ((2, 2), (3, 3))), (1, ((0, 7), (0, 7)))), 0)
        self.same(ready(listed, twelve, ()), (1,))
        self.same(can_come_first(listed, twelve, (0,)), False)
        self.same(first_row(listed, twelve), (1, 0))
        self.same(row_beginning(listed, twelve, (1,)), (1, 0))
        self.same(placed_without(listed, twelve, 1), ())
        self.bad("wanted", ready, listed, thirteen, ())
        self.bad("wanted", can_come_first, listed, thirteen, (0,))
        self.bad("wanted", first_row, listed, thirteen)
        self.bad("wanted", row_beginning, listed, thirteen, (1,))
        self.bad("wanted", placed_without, listed, thirteen, 1)

    def test_example_of_point_49(self):
        self.same(ready(TWO, ("self",), ()), (0,))
        self.same(right_rows(TWO, ("self",)), [(0, 1)])
        self.same((is_right(TWO, ("self",), (0, 1)), is_right(TWO, ("self",), (1, 0))), (True, False))
        self.same((first_row(TWO, ("self",)), row_beginning(TWO, ("self",), (1,))), ((0, 1), None))

    def test_examples_of_the_interface(self):
        self.check_examples("""
>>> from rulerows.ready import can_come_first, first_row, placed_without, ready, row_beginning
>>> two = ((4,), ((1, ((0, 2),)), (2, ((1, 3),))), 0)
>>> ready(two, ("self",), ()), ready(two, ("self",), (0,)), first_row(two, ("self",))
((0,), (1,), (0, 1))
>>> row_beginning(two, ("self",), (1,)) is None
True
>>> placed_without(two, ("self",), 0), can_come_first(two, ("self",), (1,))
((), False)
""")


if __name__ == "__main__":
    unittest.main()
