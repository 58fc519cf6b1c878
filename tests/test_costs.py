"""costs.py: points 83 to 86, 90, 92 and 93."""

import random
import unittest

from rulerows import costs as costs_file
from rulerows.costs import cheapest_row, cost, least_cost, shares
from rulerows.swaps import safe_swaps
from tests.support import (
    EDGE_LISTS, LISTED, LOOSE, LOOSE_LIST, NOT_LISTS, NOT_ROWS, NOT_WANTED, NOT_WEIGHTS, NO_RULES, ONE_RULE,
    SEVEN_CHAINED, SEVEN_FREE, SOME_WANTED, TWO, WEIGHTS, WIDE, WIDEST, WIDE_THIRTEEN, WIDE_TWELVE, RowsTest,
    all_cases, all_rows, ascending, costing, crowded_goals, deciding, deep, exchange, goals_with_rows,
    goals_without_rows, matching, random_weights, some_lists,
)

ANY = ("cases", ())
LISTED_ARGUMENT = ("listed", LISTED, NOT_LISTS)
ALIKE = ((8,), ((1, ((1, 1),)), (1, ((7, 7),)), (1, ((1, 2),))), 0)
ALIKE_WEIGHTS = (((1,), 4), ((2,), 1), ((7,), 3))


def sharing(listed, weights, row):
    """The shares by the words of point 85."""
    found = [0] * len(row)
    for case, weight in weights:
        number, _ = deciding(listed, row, case)
        if number is not None:
            found[number] += weight
    return tuple(found)


def open_after(listed, weights, rules):
    return sum(weight for case, weight in weights if not set(matching(listed, case)) & set(rules))


class CostTest(RowsTest):

    def test_each_row(self):
        rng = random.Random(191)
        for listed in EDGE_LISTS + (WIDEST, NO_RULES, ONE_RULE) + tuple(some_lists(192, 60, most_rules=5)):
            for row in all_rows(listed)[::11]:
                weights = random_weights(rng, listed)
                self.same(cost(listed, weights, row), costing(listed, weights, row), (listed, weights, row))
                self.same(shares(listed, weights, row), sharing(listed, weights, row), (listed, weights, row))

    def test_the_open_weights_make_up_the_cost(self):
        rng = random.Random(193)
        for listed in some_lists(194, 60, most_rules=6):
            row = tuple(rng.sample(ascending(listed), len(listed[1])))
            weights = random_weights(rng, listed)
            opened = [open_after(listed, weights, row[:place]) for place in range(len(row))]
            self.same(cost(listed, weights, row), sum(opened))
            whole = sum(weight for _, weight in weights)
            self.same(sum(shares(listed, weights, row)) + open_after(listed, weights, row), whole)

    def test_a_case_of_the_first_of_the_last_and_of_no_rule(self):
        listed = ((8,), ((1, ((0, 2),)), (2, ((1, 3),)), (1, ((3, 5),))), 0)
        for case, comparing, decider in (((0,), 1, 0), ((1,), 1, 0), ((3,), 2, 1), ((5,), 3, 2), ((6,), 3, None)):
            told = tuple([7 if number == decider else 0 for number in range(3)])
            self.same(cost(listed, ((case, 7),), (0, 1, 2)), 7 * comparing)
            self.same(shares(listed, ((case, 7),), (0, 1, 2)), told)
        self.same(cost(listed, (((1,), 7),), (2, 1, 0)), 14)
        self.same(shares(listed, (((1,), 7),), (2, 1, 0)), (0, 7, 0))

    def test_a_case_in_several_pairs(self):
        listed = ((8,), ((1, ((0, 2),)), (2, ((1, 3),))), 0)
        weights = (((3,), 5), ((0,), 2), ((3,), 5), ((3,), 1), ((7,), 10), ((7,), 10))
        self.same(cost(listed, weights, (0, 1)), 22 + 2 + 40)
        self.same(shares(listed, weights, (0, 1)), (2, 11))
        self.same(cost(listed, weights, (1, 0)), 11 + 4 + 40)
        self.same(cost(listed, (((3,), 5),) * 12, (0, 1)), 120)
        self.same(shares(listed, (((3,), 5),) * 12, (0, 1)), (0, 60))

    def test_weights_of_0_and_1000_and_none(self):
        listed = ((8,), ((1, ((0, 2),)), (2, ((1, 3),))), 0)
        self.same(cost(listed, (), (0, 1)), 0)
        self.same(shares(listed, (), (0, 1)), (0, 0))
        self.same(cost(listed, (((3,), 0), ((7,), 0)), (0, 1)), 0)
        self.same(shares(listed, (((3,), 0), ((7,), 0)), (0, 1)), (0, 0))
        self.same(cost(listed, (((3,), 1000), ((7,), 1000)), (0, 1)), 4000)
        self.same(shares(listed, (((3,), 1000), ((7,), 1000)), (0, 1)), (0, 1000))
        seven = tuple([((7,), 1000)] * 12)
        self.same(cost(SEVEN_FREE, seven, (0, 1, 2, 3, 4, 5, 6)), 84000)
        self.same(shares(SEVEN_FREE, seven, (0, 1, 2, 3, 4, 5, 6)), (0,) * 7)

    def test_no_rules(self):
        self.same(cost(NO_RULES, (((1,), 1000),), ()), 0)
        self.same(shares(NO_RULES, (((1,), 1000),), ()), ())

    def test_rows_need_not_be_right(self):
        self.same(cost(TWO, (((3,), 5), ((0,), 1)), (1, 0)), 7)
        self.same(shares(TWO, (((3,), 5), ((0,), 1)), (1, 0)), (1, 5))

    def test_a_swap_changes_the_cost_by_shares(self):
        rng = random.Random(195)
        tried = 0
        for listed, wanted, rows in goals_with_rows(196, 80, 5):
            weights = random_weights(rng, listed)
            for row in rows[::5]:
                for place in safe_swaps(listed, wanted, row):
                    tried += 1
                    behind = exchange(row, place)
                    before = shares(listed, weights, row)[row[place]]
                    after = shares(listed, weights, behind)[row[place + 1]]
                    self.same(cost(listed, weights, behind), cost(listed, weights, row) + before - after)
        self.assertGreater(tried, 100)

    def test_wrong_arguments(self):
        for weights in ((), WEIGHTS, (((0, 0), 1000),) * 12):
            told = LISTED_ARGUMENT, ("weights", weights, NOT_WEIGHTS), ("row", (2, 0, 1), NOT_ROWS)
            self.check_arguments(cost, *told)
            self.check_arguments(shares, *told)
        for wrong in ((0,), [], None):
            self.bad("row", cost, NO_RULES, (), wrong)
            self.bad("row", shares, NO_RULES, (), wrong)


class CheapestTest(RowsTest):

    def check_cheapest(self, listed, wanted, rows, weights):
        found = sorted([(costing(listed, weights, row), row) for row in rows])
        told = (listed, wanted, weights)
        self.same(cheapest_row(listed, wanted, weights), found[0][1], told)
        self.same(least_cost(listed, wanted, weights), found[0][0], told)
        self.same(cost(listed, weights, found[0][1]), found[0][0], told)
        return len([1 for price, _ in found if price == found[0][0]])

    def test_each_list(self):
        rng = random.Random(197)
        tried = {True: 0, False: 0}
        for listed, wanted, rows in goals_with_rows(198, 400) + crowded_goals(199, 12):
            several = self.check_cheapest(listed, wanted, rows, random_weights(rng, listed)) > 1
            tried[several] += len(rows) > 1
        self.assertGreater(min(tried.values()), 20)

    def test_seven_rules(self):
        rng = random.Random(200)
        for listed, wanted, rows in goals_with_rows(201, 25, 7, 24):
            self.check_cheapest(listed, wanted, rows[:5040], random_weights(rng, listed, 12))
        weights = tuple([((value,), value) for value in range(8)])
        self.same(cheapest_row(SEVEN_FREE, ANY, weights), (6, 5, 4, 3, 2, 1, 0))
        self.same(least_cost(SEVEN_FREE, ANY, weights), 6 + 10 + 12 + 12 + 10 + 6 + 49)
        self.same(cheapest_row(SEVEN_CHAINED, ("self",), weights), (0, 1, 2, 3, 4, 5, 6))

    def test_the_first_of_several_equally_cheap_rows(self):
        for weights in ((), (((0,), 0),), (((7,), 1000),) * 12):
            self.same(cheapest_row(SEVEN_FREE, ANY, weights), (0, 1, 2, 3, 4, 5, 6))
        self.same(least_cost(SEVEN_FREE, ANY, ()), 0)
        self.same(least_cost(SEVEN_FREE, ANY, (((7,), 1000),) * 12), 84000)
        # Rule 3 comes first; all others are alike.
        self.same(cheapest_row(SEVEN_FREE, ANY, (((3,), 1),)), (3, 0, 1, 2, 4, 5, 6))
        self.same(cheapest_row(SEVEN_FREE, ANY, (((3,), 1), ((5,), 1))), (3, 5, 0, 1, 2, 4, 6))
        self.same(cheapest_row(SEVEN_FREE, ANY, (((3,), 1), ((5,), 2))), (5, 3, 0, 1, 2, 4, 6))
        self.same(cheapest_row(SEVEN_FREE, ANY, (((3,), 1), ((5,), 1), ((3,), 1))), (3, 5, 0, 1, 2, 4, 6))

    def test_only_right_rows_count(self):
        self.same(cheapest_row(TWO, ("self",), (((3,), 5),)), (0, 1))
        self.same(least_cost(TWO, ("self",), (((3,), 5),)), 10)
        self.same(cheapest_row(TWO, ANY, (((3,), 5),)), (1, 0))
        self.same(least_cost(TWO, ANY, (((3,), 5),)), 5)

    def test_no_right_row(self):
        rng = random.Random(202)
        goals = goals_without_rows(203, 100) + [(LOOSE_LIST, LOOSE), (NO_RULES, ("cases", (((1,), 3),)))]
        for listed, wanted in goals:
            for weights in ((), random_weights(rng, listed)):
                self.same(cheapest_row(listed, wanted, weights), None, (listed, wanted))
                self.same(least_cost(listed, wanted, weights), None, (listed, wanted))

    def test_few_rules(self):
        for weights in ((), (((1,), 1000),) * 12):
            self.same(cheapest_row(NO_RULES, ("self",), weights), ())
            self.same(least_cost(NO_RULES, ("self",), weights), 0)
            self.same(cheapest_row(ONE_RULE, ("self",), weights), (0,))
            self.same(least_cost(ONE_RULE, ("self",), weights), sum(weight for _, weight in weights))

    def test_wrong_arguments(self):
        for wanted in SOME_WANTED + (("cases", (((0, 0), 5),)),):
            for weights in ((), WEIGHTS):
                told = LISTED_ARGUMENT, ("wanted", wanted, NOT_WANTED), ("weights", weights, NOT_WEIGHTS)
                self.check_arguments(cheapest_row, *told)
                self.check_arguments(least_cost, *told)


class AllTest(RowsTest):

    def test_functions_are_defined_in_their_file(self):
        for name in ("cost", "shares", "cheapest_row", "least_cost"):
            self.assertEqual(getattr(costs_file, name).__module__, "rulerows.costs")

    def test_each_weight_from_0_to_1000(self):
        for weight in (0, 1, 2, 500, 999, 1000):
            self.same(cost(ALIKE, (((7,), weight),), (0, 1, 2)), 2 * weight)
            self.same(least_cost(ALIKE, ANY, (((7,), weight),)), weight)
        for weight in (1001, 1002, -1, True, None):
            self.bad("weights", cost, ALIKE, (((7,), weight),), (0, 1, 2))
            self.bad("weights", shares, ALIKE, (((7,), weight),), (0, 1, 2))
            self.bad("weights", cheapest_row, ALIKE, ANY, (((7,), weight),))
            self.bad("weights", least_cost, ALIKE, ANY, (((7,), weight),))

    def test_each_case(self):
        for case in all_cases((8,)):
            self.same(cost(ALIKE, ((case, 1),), (0, 1, 2)), costing(ALIKE, ((case, 1),), (0, 1, 2)))
        for case in ((8,), (-1,), (0, 0), (), (True,), [0]):
            self.bad("weights", cost, ALIKE, ((case, 1),), (0, 1, 2))

    def test_twelve_pairs_and_thirteen(self):
        row, wanted = (1, 0), ("cases", WIDE_TWELVE)
        listed = ((8, 8), ((2, ((2, 2), (3, 3))), (1, ((0, 7), (0, 7)))), 0)
        self.same(cost(listed, WIDE_TWELVE, row), 12)
        self.same(cost(listed, WIDE_TWELVE, (0, 1)), 23)
        self.same(shares(listed, WIDE_TWELVE, row), (0, 12))
        self.same(cheapest_row(listed, wanted, WIDE_TWELVE), row)
        self.same(least_cost(listed, wanted, WIDE_TWELVE), 12)
        self.same(cost(WIDE, WIDE_TWELVE, ()), 0)
        self.bad("weights", cost, listed, WIDE_THIRTEEN, row)
        self.bad("weights", shares, listed, WIDE_THIRTEEN, row)
        for function in (cheapest_row, least_cost):
            self.bad("weights", function, listed, wanted, WIDE_THIRTEEN)
            self.bad("wanted", function, listed, ("cases", WIDE_THIRTEEN), WIDE_TWELVE)

    def test_very_deep_values(self):
        down = deep()
        for weights in (down, (down,), ((down, 1),), (((7,), down),)):
            try:
                cost(ALIKE, weights, (0, 1, 2))
            except ValueError as error:
                self.same(error.name, "weights")
            else:
                self.fail("no error")

    def test_example_of_point_93(self):
        self.same(cost(ALIKE, ALIKE_WEIGHTS, (0, 1, 2)), 4 + 6 + 3)
        for place in (0, 1):
            self.assertGreater(cost(ALIKE, ALIKE_WEIGHTS, exchange((0, 1, 2), place)), 13)
        self.same(safe_swaps(ALIKE, ("self",), (0, 1, 2)), (0, 1))
        self.same(cheapest_row(ALIKE, ("self",), ALIKE_WEIGHTS), (2, 1, 0))
        self.same(least_cost(ALIKE, ("self",), ALIKE_WEIGHTS), 5 + 6)

    def test_examples_of_the_interface(self):
        self.check_examples("""
>>> from rulerows.costs import cheapest_row, cost, least_cost, shares
>>> alike = ((8,), ((1, ((1, 1),)), (1, ((7, 7),)), (1, ((1, 2),))), 0)
>>> weights = (((1,), 4), ((2,), 1), ((7,), 3))
>>> cost(alike, weights, (0, 1, 2)), shares(alike, weights, (0, 1, 2))
(13, (4, 3, 1))
>>> cheapest_row(alike, ("self",), weights), least_cost(alike, ("self",), weights)
((2, 1, 0), 11)
""")


if __name__ == "__main__":
    unittest.main()
