"""counting.py: points 73 to 79 and 81."""

import itertools
import math
import random
import unittest

from rulerows import counting as counting_file
from rulerows.counting import count_at, count_before, count_beginning, count_rows, sets_first
from rulerows.made import put_in_row
from rulerows.ready import can_come_first, ready
from tests.support import (
    EDGE_LISTS, LISTED, LOOSE, LOOSE_LIST, NOT_BEGINNINGS, NOT_LISTS, NOT_NUMBERS, NOT_WANTED, NO_RULES, ONE_RULE,
    ONLY_TWO, SEVEN_CHAINED, SEVEN_FREE, SOME, SOME_WANTED, THREE, TWO, WIDEST, WIDE_THIRTEEN, WIDE_TWELVE,
    RowsTest,
    all_rows, all_sets, ascending, coming_first, crowded_goals, goals_without_rows, right_rows, some_wanted,
    unmet_cases,
)

ANY = ("cases", ())
LISTED_ARGUMENT = ("listed", LISTED, NOT_LISTS)


def beginnings(listed):
    numbers = range(len(listed[1]))
    return [rules for many in range(len(numbers) + 1) for rules in itertools.permutations(numbers, many)]


def pool(seed, many=120):
    """Triples of a list, something wanted of it, and its right rows, perhaps none."""
    found = [(listed, wanted, right_rows(listed, wanted)) for listed, wanted in some_wanted(seed, many)]
    return found + crowded_goals(seed + 1, 10) + [(LOOSE_LIST, LOOSE, []), (SOME, ("self",), right_rows(SOME, ("self",)))]


class CountRowsTest(RowsTest):

    def test_all_right_rows(self):
        tried = {0: 0, 1: 0, 2: 0}
        for listed, wanted, rows in pool(161, 300):
            tried[min(2, len(rows))] += 1
            self.same(count_rows(listed, wanted), len(rows), (listed, wanted))
        self.assertGreater(min(tried.values()), 30)

    def test_seven_rules(self):
        chosen = [pair for pair in some_wanted(163, 200, 7, 24) if len(pair[0][1]) == 7][:20]
        for listed, wanted in chosen:
            self.same(count_rows(listed, wanted), len(right_rows(listed, wanted)), (listed, wanted))
        self.same(count_rows(SEVEN_FREE, ANY), 5040)
        self.same(count_rows(SEVEN_CHAINED, ("self",)), 1)
        self.same(count_rows(SEVEN_CHAINED, ("cases", (((6,), 1),))), 2520)

    def test_if_nothing_is_wanted_each_row_is_right(self):
        for many in range(8):
            listed = ((8,), SEVEN_FREE[1][:many], 0)
            self.same(count_rows(listed, ANY), math.factorial(many))
            self.same(len(sets_first(listed, ANY)), 2 ** many)

    def test_a_loose_case(self):
        self.same(unmet_cases(LOOSE_LIST, LOOSE), [(3,)])
        self.same(can_come_first(LOOSE_LIST, LOOSE, (0, 1)), True)
        self.same(count_rows(LOOSE_LIST, LOOSE), 0)
        self.same(count_rows(LOOSE_LIST, ("cases", LOOSE[1][:1])), 2)
        tried = 0
        for listed, wanted, rows in pool(164, 400):
            tried += bool(unmet_cases(listed, wanted))
            expected = can_come_first(listed, wanted, ascending(listed)) and not unmet_cases(listed, wanted)
            self.same(count_rows(listed, wanted) > 0, expected)
        self.assertGreater(tried, 15)

    def test_no_rules(self):
        self.same(count_rows(NO_RULES, ("self",)), 1)
        self.same(count_rows(NO_RULES, ANY), 1)
        self.same(count_rows(NO_RULES, ("cases", (((1,), 3),))), 0)
        self.same(count_rows(NO_RULES, ("cases", (((1,), 0),))), 1)
        self.same(count_rows(ONE_RULE, ("self",)), 1)
        self.same(count_rows(ONE_RULE, ("cases", (((1,), 3),))), 0)

    def test_if_further_cases_are_wanted_there_are_not_more(self):
        for listed, wanted, _ in pool(165):
            if wanted[0] == "cases":
                counts = [count_rows(listed, ("cases", wanted[1][:many])) for many in range(len(wanted[1]) + 1)]
                self.same(counts, sorted(counts, reverse=True))

    def test_the_rules_renumbered(self):
        for listed, wanted, rows in pool(166):
            if wanted[0] != "self":
                for renumbered in all_rows(listed)[::7]:
                    other = put_in_row(listed, renumbered)
                    self.same(count_rows(other, wanted), len(rows))
                    there = sorted([tuple([renumbered.index(number) for number in row]) for row in rows])
                    self.same(right_rows(other, wanted), there)

    def test_wrong_arguments(self):
        for wanted in SOME_WANTED + (("cases", (((0, 0), 5),)),):
            for function in (count_rows, sets_first):
                self.check_arguments(function, LISTED_ARGUMENT, ("wanted", wanted, NOT_WANTED))


class CountBeginningTest(RowsTest):

    def test_each_beginning(self):
        tried = {True: 0, False: 0}
        for listed, wanted, rows in pool(167, 80):
            for rules in beginnings(listed):
                many = len([row for row in rows if row[:len(rules)] == rules])
                tried[many > 0] += 1
                self.same(count_beginning(listed, wanted, rules), many, (listed, wanted, rules))
        self.assertGreater(min(tried.values()), 300)

    def test_any_sequence_of_rules_that_are_ready_in_their_turn(self):
        for listed, wanted, rows in pool(168, 80):
            for chosen in all_sets(listed):
                counts = [count_beginning(listed, wanted, rules) for rules in itertools.permutations(chosen)]
                self.assertLessEqual(len({many for many in counts if many > 0}), 1)

    def test_the_number_is_the_sum_over_the_ready_rules(self):
        for listed, wanted, rows in pool(169, 60):
            for rules in beginnings(listed):
                able = ready(listed, wanted, tuple(sorted(rules)))
                if rows and len(rules) < len(listed[1]):
                    further = [count_beginning(listed, wanted, (*rules, number)) for number in able]
                    if count_beginning(listed, wanted, rules):
                        self.same(count_beginning(listed, wanted, rules), sum(further))

    def test_seven_rules(self):
        for many in range(8):
            self.same(count_beginning(SEVEN_FREE, ANY, tuple(range(6, 6 - many, -1))), math.factorial(7 - many))
        self.same(count_beginning(SEVEN_CHAINED, ("self",), (0, 1, 2)), 1)
        self.same(count_beginning(SEVEN_CHAINED, ("self",), (0, 2)), 0)
        self.same(count_beginning(SEVEN_CHAINED, ("self",), (1, 0)), 0)
        self.same(count_beginning(SEVEN_CHAINED, ("self",), (0, 1, 2, 3, 4, 5, 6)), 1)
        self.same(count_beginning(SEVEN_CHAINED, ("self",), (0, 1, 2, 3, 4, 6, 5)), 0)

    def test_from_none_to_all(self):
        self.same(count_beginning(THREE, ONLY_TWO, ()), 3)
        self.same(count_beginning(THREE, ONLY_TWO, (0,)), 2)
        self.same(count_beginning(THREE, ONLY_TWO, (1,)), 0)
        self.same(count_beginning(THREE, ONLY_TWO, (2, 0, 1)), 1)
        self.same(count_beginning(THREE, ONLY_TWO, (2, 1, 0)), 0)
        self.same(count_beginning(NO_RULES, ("self",), ()), 1)
        self.same(count_beginning(NO_RULES, ("cases", (((1,), 3),)), ()), 0)

    def test_a_loose_case(self):
        for rules in beginnings(LOOSE_LIST):
            self.same(count_beginning(LOOSE_LIST, LOOSE, rules), 0)

    def test_wrong_arguments(self):
        for wanted in SOME_WANTED + (("cases", (((0, 0), 5),)),):
            told = LISTED_ARGUMENT, ("wanted", wanted, NOT_WANTED)
            self.check_arguments(count_beginning, *told, ("rules", (2, 0), NOT_BEGINNINGS))
        for rules in ((0,), [], None):
            self.bad("rules", count_beginning, NO_RULES, ("self",), rules)


class CountAtTest(RowsTest):

    def test_each_rule_at_each_place(self):
        tried = {True: 0, False: 0}
        for listed, wanted, rows in pool(171):
            for number in ascending(listed):
                counts = []
                for place in ascending(listed):
                    many = len([row for row in rows if row[place] == number])
                    tried[many > 0] += 1
                    counts.append(count_at(listed, wanted, number, place))
                    self.same(counts[-1], many, (listed, wanted, number, place))
                self.same(sum(counts), count_rows(listed, wanted))
        self.assertGreater(min(tried.values()), 200)

    def test_seven_rules(self):
        rng = random.Random(172)
        chosen = [pair for pair in some_wanted(173, 150, 7, 24) if len(pair[0][1]) == 7][:10]
        for listed, wanted in chosen:
            rows = right_rows(listed, wanted)
            for _ in range(8):
                number, place = rng.randrange(7), rng.randrange(7)
                many = len([row for row in rows if row[place] == number])
                self.same(count_at(listed, wanted, number, place), many, (listed, wanted, number, place))
        for number, place in ((0, 0), (6, 6), (6, 0), (3, 5)):
            self.same(count_at(SEVEN_FREE, ANY, number, place), 720)
            self.same(count_at(SEVEN_CHAINED, ("self",), number, place), int(number == place))

    def test_few_rules(self):
        self.same(count_at(ONE_RULE, ("self",), 0, 0), 1)
        self.same([count_at(TWO, ("self",), number, place) for number in (0, 1) for place in (0, 1)], [1, 0, 0, 1])
        self.bad("number", count_at, NO_RULES, ("self",), 0, 0)
        self.bad("place", count_at, ONE_RULE, ("self",), 0, 1)
        self.same([count_at(LOOSE_LIST, LOOSE, number, place) for number in (0, 1) for place in (0, 1)], [0] * 4)

    def test_wrong_arguments(self):
        for wanted in SOME_WANTED + (("cases", (((0, 0), 5),)),):
            told = LISTED_ARGUMENT, ("wanted", wanted, NOT_WANTED), ("number", 2, NOT_NUMBERS), ("place", 0, NOT_NUMBERS)
            self.check_arguments(count_at, *told)


class CountBeforeTest(RowsTest):

    def test_each_pair(self):
        tried = {True: 0, False: 0}
        for listed, wanted, rows in pool(174):
            for number, other in itertools.permutations(ascending(listed), 2):
                many = len([row for row in rows if row.index(number) < row.index(other)])
                tried[many > 0] += 1
                got = count_before(listed, wanted, number, other)
                self.same(got, many, (listed, wanted, number, other))
                self.same(got + count_before(listed, wanted, other, number), count_rows(listed, wanted))
        self.assertGreater(min(tried.values()), 100)

    def test_seven_rules(self):
        rng = random.Random(175)
        chosen = [pair for pair in some_wanted(176, 150, 7, 24) if len(pair[0][1]) == 7][:10]
        for listed, wanted in chosen:
            rows = right_rows(listed, wanted)
            for _ in range(8):
                number, other = rng.sample(range(7), 2)
                many = len([row for row in rows if row.index(number) < row.index(other)])
                self.same(count_before(listed, wanted, number, other), many, (listed, wanted, number, other))
        for number, other in ((0, 6), (6, 0), (3, 5)):
            self.same(count_before(SEVEN_FREE, ANY, number, other), 2520)
            self.same(count_before(SEVEN_CHAINED, ("self",), number, other), int(number < other))

    def test_few_rules(self):
        self.same((count_before(TWO, ("self",), 0, 1), count_before(TWO, ("self",), 1, 0)), (1, 0))
        self.bad("number", count_before, NO_RULES, ("self",), 0, 0)
        self.bad("other", count_before, ONE_RULE, ("self",), 0, 0)
        self.bad("other", count_before, ONE_RULE, ("self",), 0, 1)
        self.same((count_before(LOOSE_LIST, LOOSE, 0, 1), count_before(LOOSE_LIST, LOOSE, 1, 0)), (0, 0))

    def test_wrong_arguments(self):
        for wanted in SOME_WANTED + (("cases", (((0, 0), 5),)),):
            for number in range(3):
                others = ("other", 2 - number // 2, NOT_NUMBERS + (number,))
                told = LISTED_ARGUMENT, ("wanted", wanted, NOT_WANTED), ("number", number, NOT_NUMBERS), others
                self.check_arguments(count_before, *told)


class SetsFirstTest(RowsTest):

    def test_each_set(self):
        for listed, wanted, _ in pool(177):
            expected = coming_first(listed, wanted)
            self.same(sets_first(listed, wanted), expected, (listed, wanted))
            self.same(expected[0], ())
            able = [chosen for chosen in all_sets(listed) if can_come_first(listed, wanted, chosen)]
            self.same(expected, sorted(able, key=lambda chosen: (len(chosen), chosen)))
            for one, other in itertools.product(expected[::3], expected[::2]):
                self.assertIn(tuple(sorted({*one, *other})), expected)

    def test_seven_rules(self):
        for listed, wanted in [pair for pair in some_wanted(178, 60, 7, 24) if len(pair[0][1]) == 7][:5]:
            self.same(sets_first(listed, wanted), coming_first(listed, wanted), (listed, wanted))
        self.same(sets_first(SEVEN_FREE, ANY), sorted(all_sets(SEVEN_FREE), key=lambda chosen: (len(chosen), chosen)))
        self.same(sets_first(SEVEN_CHAINED, ("self",)), [tuple(range(many)) for many in range(8)])

    def test_the_rules_of_a_set_need_not_be_placed_in_ascending_sequence(self):
        swapped = ("cases", (((0,), 1), ((1,), 2), ((3,), 2)))
        self.same(sets_first(TWO, swapped), [(), (1,), (0, 1)])

    def test_few_rules_and_no_right_row(self):
        self.same(sets_first(NO_RULES, ("self",)), [()])
        self.same(sets_first(NO_RULES, ("cases", (((1,), 3),))), [()])
        self.same(sets_first(ONE_RULE, ("self",)), [(), (0,)])
        self.same(sets_first(ONE_RULE, ("cases", (((1,), 3),))), [()])
        self.same(sets_first(LOOSE_LIST, LOOSE), [(), (0,), (1,), (0, 1)])

    def test_the_list_is_new_each_time(self):
        self.check_new_list(sets_first, TWO, ("self",))
        self.check_new_list(sets_first, NO_RULES, ("self",))


class AllTest(RowsTest):

    def test_functions_are_defined_in_their_file(self):
        for name in ("count_rows", "count_beginning", "count_at", "count_before", "sets_first"):
            self.assertEqual(getattr(counting_file, name).__module__, "rulerows.counting")

    def test_no_right_row(self):
        for listed, wanted in goals_without_rows(179, 60):
            self.same(count_rows(listed, wanted), 0)
            self.same(count_beginning(listed, wanted, ()), 0)

    def test_edge_lists(self):
        for listed in EDGE_LISTS + (WIDEST,):
            if len(listed[1]) < 7:
                for wanted in (("self",), ANY, ("list", (listed[0], (), listed[2]))):
                    self.same(count_rows(listed, wanted), len(right_rows(listed, wanted)))

    def test_twelve_pairs_and_thirteen(self):
        listed = ((8, 8), ((2, ((2, 2), (3, 3))), (1, ((0, 7), (0, 7)))), 0)
        twelve, thirteen = ("cases", WIDE_TWELVE), ("cases", WIDE_THIRTEEN)
        self.same(count_rows(listed, twelve), 1)
        self.same(count_beginning(listed, twelve, (1,)), 1)
        self.same(count_at(listed, twelve, 0, 1), 1)
        self.same(count_before(listed, twelve, 1, 0), 1)
        self.same(sets_first(listed, twelve), [(), (1,), (0, 1)])
        self.bad("wanted", count_rows, listed, thirteen)
        self.bad("wanted", sets_first, listed, thirteen)
        self.bad("wanted", count_beginning, listed, thirteen, (1,))
        self.bad("wanted", count_at, listed, thirteen, 0, 1)
        self.bad("wanted", count_before, listed, thirteen, 1, 0)

    def test_example_of_point_82(self):
        self.same([count_before(THREE, ("self",), *pair) for pair in ((0, 1), (1, 2))], [1, 1])
        self.same([count_before(THREE, ("self",), *pair) for pair in ((1, 0), (2, 1))], [0, 0])
        self.same(count_rows(THREE, ONLY_TWO), 3)
        self.same((count_before(THREE, ONLY_TWO, 0, 1), count_before(THREE, ONLY_TWO, 1, 0)), (3, 0))


if __name__ == "__main__":
    unittest.main()
