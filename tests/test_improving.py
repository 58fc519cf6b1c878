"""improving.py: points 83, 90 to 93."""

import random
import unittest

from rulerows import improving as improving_file
from rulerows.improving import best_swap, improved
from tests.support import (
    LISTED, NOT_LISTS, NOT_ROWS, NOT_WANTED, NOT_WEIGHTS, NO_RULES, ONE_RULE, SEVEN_CHAINED, SEVEN_FREE,
    SOME_WANTED, TWO, WEIGHTS, WIDE_THIRTEEN, WIDE_TWELVE, RowsTest,
    all_rows, costing, crowded_goals, deep, exchange, goals_with_rows, goals_without_rows, random_weights, right_rows,
    some_wanted,
)

ANY = ("cases", ())
LISTED_ARGUMENT = ("listed", LISTED, NOT_LISTS)
ALIKE = ((8,), ((1, ((1, 1),)), (1, ((7, 7),)), (1, ((1, 2),))), 0)
ALIKE_WEIGHTS = (((1,), 4), ((2,), 1), ((7,), 3))


def best(listed, weights, rows, row):
    """The best swap by the words of point 90, or None; `rows` are all right ones."""
    found = []
    for place in range(len(row) - 1):
        if exchange(row, place) in rows:
            found.append((costing(listed, weights, exchange(row, place)), place))
    if not found or sorted(found)[0][0] >= costing(listed, weights, row):
        return None
    return (sorted(found)[0][1], sorted(found)[0][0])


def after_all(listed, weights, rows, row):
    swap = best(listed, weights, rows, row)
    if swap is None:
        return row
    return after_all(listed, weights, rows, exchange(row, swap[0]))


class SwapTest(RowsTest):

    def test_each_right_row(self):
        rng = random.Random(331)
        tried = {True: 0, False: 0}
        for listed, wanted, rows in goals_with_rows(332, 200) + crowded_goals(333, 10):
            weights = random_weights(rng, listed)
            for row in rows:
                expected = best(listed, weights, rows, row)
                tried[expected is None] += len(row) > 1
                self.same(best_swap(listed, wanted, weights, row), expected, (listed, wanted, weights, row))
        self.assertGreater(min(tried.values()), 200)

    def test_seven_rules(self):
        rng = random.Random(334)
        for listed, wanted, rows in goals_with_rows(335, 20, 7, 24):
            weights = random_weights(rng, listed, 12)
            for row in rng.sample(rows, min(len(rows), 5)):
                self.same(best_swap(listed, wanted, weights, row), best(listed, weights, rows, row))

    def test_of_several_equally_cheap_ones_the_one_at_the_first_place(self):
        weights = (((1,), 5), ((3,), 5), ((5,), 5))
        # Each of the three swaps saves 5.
        self.same(best_swap(SEVEN_FREE, ANY, weights, (0, 1, 2, 3, 4, 5, 6)), (0, 55))
        self.same(best_swap(SEVEN_FREE, ANY, weights, (1, 0, 2, 3, 4, 5, 6)), (2, 50))
        self.same(best_swap(SEVEN_FREE, ANY, weights, (1, 0, 3, 2, 4, 5, 6)), (1, 45))
        self.same(best_swap(SEVEN_FREE, ANY, weights, (1, 3, 5, 0, 2, 4, 6)), None)

    def test_the_cheapest_swap_comes_before_the_first_one(self):
        weights = (((1,), 5), ((3,), 5), ((5,), 6))
        self.same(best_swap(SEVEN_FREE, ANY, weights, (0, 1, 2, 3, 4, 5, 6)), (4, 60))
        self.same(best_swap(SEVEN_FREE, ANY, (((6,), 1),), (0, 1, 2, 3, 4, 5, 6)), (5, 6))

    def test_a_swap_that_costs_as_much_is_none(self):
        for weights in ((), (((7,), 1000),), (((0,), 0), ((6,), 0))):
            self.same(best_swap(SEVEN_FREE, ANY, weights, (6, 5, 4, 3, 2, 1, 0)), None)
            self.same(best_swap(SEVEN_FREE, ANY, weights, (0, 1, 2, 3, 4, 5, 6)), None)
        self.same(best_swap(SEVEN_FREE, ANY, (((0,), 3), ((1,), 3)), (1, 0, 2, 3, 4, 5, 6)), None)
        self.same(best_swap(SEVEN_FREE, ANY, (((0,), 3), ((1,), 2)), (1, 0, 2, 3, 4, 5, 6)), (0, 7))

    def test_only_safe_swaps_count(self):
        weights = (((3,), 5),)
        self.same(best_swap(TWO, ("self",), weights, (0, 1)), None)
        self.same(best_swap(TWO, ANY, weights, (0, 1)), (0, 5))
        self.same(best_swap(SEVEN_CHAINED, ("self",), (((7,), 9),), (0, 1, 2, 3, 4, 5, 6)), None)
        # The swap at 1 would save more, but it is not right.
        wanted = ("cases", (((2,), 2),))
        listed = ((8,), ((1, ((0, 0),)), (2, ((1, 2),)), (1, ((2, 5),))), 0)
        weights = (((1,), 1), ((5,), 9))
        self.same(best_swap(listed, wanted, weights, (0, 1, 2)), (0, 28))
        self.same(best_swap(listed, ANY, weights, (0, 1, 2)), (1, 21))

    def test_few_rules(self):
        for wanted in (("self",), ANY):
            for weights in ((), (((1,), 1000),) * 12):
                self.same(best_swap(NO_RULES, wanted, weights, ()), None)
                self.same(improved(NO_RULES, wanted, weights, ()), ())
                self.same(best_swap(ONE_RULE, wanted, weights, (0,)), None)
                self.same(improved(ONE_RULE, wanted, weights, (0,)), (0,))


class ImprovedTest(RowsTest):

    def test_each_right_row(self):
        rng = random.Random(336)
        tried = 0
        for listed, wanted, rows in goals_with_rows(337, 150) + crowded_goals(338, 8):
            weights = random_weights(rng, listed)
            for row in rows:
                expected = after_all(listed, weights, rows, row)
                tried += expected != row
                self.same(improved(listed, wanted, weights, row), expected, (listed, wanted, weights, row))
                self.same(best_swap(listed, wanted, weights, expected), None)
        self.assertGreater(tried, 200)

    def test_seven_rules(self):
        rng = random.Random(339)
        for listed, wanted, rows in goals_with_rows(340, 15, 7, 24):
            weights = random_weights(rng, listed, 12)
            for row in rng.sample(rows, min(len(rows), 4)):
                self.same(improved(listed, wanted, weights, row), after_all(listed, weights, rows, row))
        weights = tuple([((value,), value + 1) for value in range(7)])
        self.same(improved(SEVEN_FREE, ANY, weights, (0, 1, 2, 3, 4, 5, 6)), (6, 5, 4, 3, 2, 1, 0))
        self.same(improved(SEVEN_FREE, ANY, (), (3, 1, 0, 2, 6, 5, 4)), (3, 1, 0, 2, 6, 5, 4))
        self.same(improved(SEVEN_CHAINED, ("self",), weights, (0, 1, 2, 3, 4, 5, 6)), (0, 1, 2, 3, 4, 5, 6))

    def test_equal_rules_keep_their_sequence(self):
        weights = (((6,), 5), ((2,), 5))
        self.same(improved(SEVEN_FREE, ANY, weights, (5, 4, 6, 0, 1, 2, 3)), (6, 2, 5, 4, 0, 1, 3))

    def test_the_improved_row_need_not_be_one_of_the_cheapest(self):
        self.same(improved(ALIKE, ("self",), ALIKE_WEIGHTS, (0, 1, 2)), (0, 1, 2))
        self.same(costing(ALIKE, ALIKE_WEIGHTS, (0, 1, 2)), 13)
        self.same(costing(ALIKE, ALIKE_WEIGHTS, (2, 1, 0)), 11)


class AllTest(RowsTest):

    def test_functions_are_defined_in_their_file(self):
        for name in ("best_swap", "improved"):
            self.assertEqual(getattr(improving_file, name).__module__, "rulerows.improving")

    def test_a_row_that_is_not_right(self):
        tried = 0
        for listed, wanted in some_wanted(341, 100) + goals_without_rows(342, 30):
            rows = right_rows(listed, wanted)
            for row in all_rows(listed):
                if row not in rows:
                    tried += 1
                    self.bad("row", best_swap, listed, wanted, (), row)
                    self.bad("row", improved, listed, wanted, (), row)
        self.assertGreater(tried, 200)
        self.bad("row", best_swap, NO_RULES, ("cases", (((1,), 3),)), (), ())
        self.bad("row", improved, NO_RULES, ("cases", (((1,), 3),)), (), ())

    def test_wrong_arguments(self):
        tried = 0
        for wanted in SOME_WANTED + (("cases", (((0, 0), 5),)),):
            rows = right_rows(LISTED, wanted)
            wrong_rows = NOT_ROWS + tuple([row for row in all_rows(LISTED) if row not in rows])
            for weights in ((), WEIGHTS):
                told = LISTED_ARGUMENT, ("wanted", wanted, NOT_WANTED), ("weights", weights, NOT_WEIGHTS)
                row = rows[0] if rows else (0, 1, 2)
                tried += bool(rows)
                self.check_arguments(best_swap, *told, ("row", row, wrong_rows))
                self.check_arguments(improved, *told, ("row", row, wrong_rows))
        self.assertGreater(tried, 3)

    def test_twelve_pairs_and_thirteen(self):
        listed = ((8, 8), ((2, ((2, 2), (3, 3))), (1, ((0, 7), (0, 7)))), 0)
        self.same(best_swap(listed, ("cases", WIDE_TWELVE), WIDE_TWELVE, (1, 0)), None)
        self.same(best_swap(listed, ANY, WIDE_TWELVE, (0, 1)), (0, 12))
        self.same(improved(listed, ANY, WIDE_TWELVE, (0, 1)), (1, 0))
        for function in (best_swap, improved):
            self.bad("weights", function, listed, ANY, WIDE_THIRTEEN, (0, 1))
            self.bad("wanted", function, listed, ("cases", WIDE_THIRTEEN), WIDE_TWELVE, (0, 1))
            self.bad("row", function, listed, ("cases", WIDE_TWELVE), WIDE_TWELVE, (0, 1))

    def test_very_deep_values(self):
        down = deep()
        for function in (best_swap, improved):
            for row in (down, (down, 0), (0, down)):
                self.bad("row", function, TWO, ANY, (), row)

    def test_example_of_point_93(self):
        self.same(best_swap(ALIKE, ("self",), ALIKE_WEIGHTS, (0, 1, 2)), None)
        for place in (0, 1):
            self.assertGreater(costing(ALIKE, ALIKE_WEIGHTS, exchange((0, 1, 2), place)), 13)

    def test_examples_of_the_interface(self):
        self.check_examples("""
>>> from rulerows.improving import best_swap, improved
>>> alike = ((8,), ((1, ((1, 1),)), (1, ((7, 7),)), (1, ((1, 2),))), 0)
>>> weights = (((1,), 4), ((2,), 1), ((7,), 3))
>>> best_swap(alike, ("self",), weights, (0, 1, 2)) is None
True
>>> improved(alike, ("self",), weights, (0, 2, 1))
(0, 1, 2)
""")


if __name__ == "__main__":
    unittest.main()
