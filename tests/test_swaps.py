"""swaps.py: points 50 to 53, 56, 59 and 60."""

import itertools
import random
import unittest

from rulerows import swaps as swaps_file
from rulerows.swaps import applied, distance, nearest, safe_swaps, shown_by
from rulerows.wanted import first_wrong, is_right
from tests.support import (
    EDGE_LISTS, LISTED, NOT_LISTS, NOT_NUMBERS, NOT_POSITIONS, NOT_ROWS, NOT_WALKS, NOT_WANTED, NO_RULES, ONE_RULE,
    SEVEN_CHAINED, SEVEN_FREE, SOME, SOME_WANTED, TWO, WIDEST, WIDE_THIRTEEN, WIDE_TWELVE, RowsTest,
    all_rows, apart, ascending, crowded_goals, exchange, goals_with_rows, goals_without_rows, matching, right_rows,
    some_lists, some_wanted, wanted_actions, wrong_cases,
)

ANY = ("cases", ())
LISTED_ARGUMENT = ("listed", LISTED, NOT_LISTS)
# For LISTED with "self", the first row is right and the second one is not.
BOTH_ROWS = ((0, 1, 2), (1, 0, 2))


def positions_of(listed):
    return range(max(0, len(listed[1]) - 1))


class DistanceTest(RowsTest):

    def test_all_pairs_of_rows(self):
        for listed in (NO_RULES, ONE_RULE, TWO, SOME, LISTED) + tuple(some_lists(91, 8, most_rules=5, most_cases=8)):
            for row, other in itertools.product(all_rows(listed)[::2], all_rows(listed)):
                self.same(distance(listed, row, other), apart(row, other), (row, other))

    def test_seven_rules(self):
        rng = random.Random(92)
        rows = all_rows(SEVEN_FREE)
        for _ in range(300):
            row, other = rng.choice(rows), rng.choice(rows)
            self.same(distance(SEVEN_FREE, row, other), apart(row, other))
            self.same(distance(SEVEN_FREE, row, row[::-1]), 21)
        self.same(distance(SEVEN_FREE, (0, 1, 2, 3, 4, 5, 6), (6, 0, 1, 2, 3, 4, 5)), 6)
        self.same(distance(SEVEN_FREE, (0, 1, 2, 3, 4, 5, 6), (0, 1, 2, 3, 4, 6, 5)), 1)

    def test_both_directions_and_equal_rows_and_a_third_row(self):
        listed = ((8,), SEVEN_FREE[1][:4], 0)
        rows = all_rows(listed)
        far = {(row, other): distance(listed, row, other) for row in rows for other in rows}
        for row, other in itertools.product(rows, rows):
            self.same(far[row, other], far[other, row])
            self.same(far[row, other] == 0, row == other)
        for row, other, third in itertools.product(rows[::3], rows, rows):
            self.assertLessEqual(far[row, other], far[row, third] + far[third, other])
        for row in rows:
            self.same(far[row, row[::-1]], 6)

    def test_rows_need_not_be_right(self):
        self.same(right_rows(TWO, ("self",)), [(0, 1)])
        self.same(distance(TWO, (1, 0), (0, 1)), 1)
        self.same(distance(TWO, (1, 0), (1, 0)), 0)
        self.same(distance(SEVEN_CHAINED, (6, 5, 4, 3, 2, 1, 0), (5, 6, 4, 3, 2, 1, 0)), 1)

    def test_few_rules(self):
        self.same(distance(NO_RULES, (), ()), 0)
        self.same(distance(ONE_RULE, (0,), (0,)), 0)

    def test_wrong_arguments(self):
        for row in all_rows(LISTED):
            others = ("row", row, NOT_ROWS), ("other", row[::-1], NOT_ROWS)
            self.check_arguments(distance, LISTED_ARGUMENT, *others)
        for wrong in ((0,), [], None):
            self.bad("row", distance, NO_RULES, wrong, ())
            self.bad("other", distance, NO_RULES, (), wrong)


class SafeSwapsTest(RowsTest):

    def test_each_right_row(self):
        tried = {True: 0, False: 0}
        for listed, wanted, rows in goals_with_rows(93, 300):
            for row in rows:
                expected = []
                for position in positions_of(listed):
                    behind = exchange(row, position)
                    safe = behind in rows
                    tried[safe] += 1
                    expected += [position] * safe
                    wrong = wrong_cases(listed, wanted, behind)
                    told = (listed, wanted, row, position)
                    self.same(shown_by(listed, wanted, row, position), wrong[0] if wrong else None, told)
                self.same(safe_swaps(listed, wanted, row), tuple(expected), (listed, wanted, row))
        self.assertGreater(min(tried.values()), 200)

    def test_seven_rules(self):
        for listed, wanted, rows in goals_with_rows(94, 25, 7, 24) + [(SEVEN_CHAINED, ("self",), [ascending(SEVEN_CHAINED)])]:
            for row in rows[::97]:
                expected = [position for position in positions_of(listed) if exchange(row, position) in rows]
                self.same(safe_swaps(listed, wanted, row), tuple(expected), (listed, wanted, row))
        for row in all_rows(SEVEN_FREE)[::500]:
            self.same(safe_swaps(SEVEN_FREE, ANY, row), (0, 1, 2, 3, 4, 5))
        self.same(safe_swaps(SEVEN_CHAINED, ("self",), (0, 1, 2, 3, 4, 5, 6)), ())
        self.same(shown_by(SEVEN_CHAINED, ("self",), (0, 1, 2, 3, 4, 5, 6), 5), (6,))

    def test_it_is_safe_if_the_cases_of_both_want_the_second_one(self):
        for listed, wanted, rows in goals_with_rows(95, 60):
            for row in rows:
                for position in positions_of(listed):
                    first, second = row[position], row[position + 1]
                    safe = True
                    for case, action in wanted_actions(listed, wanted).items():
                        standing = matching(listed, case)
                        if {first, second} <= set(standing) and not set(row[:position]) & set(standing):
                            safe = safe and action == listed[1][second][0]
                    self.same(position in safe_swaps(listed, wanted, row), safe)
                    if listed[1][first][0] == listed[1][second][0]:
                        self.same(safe, True)

    def test_the_first_of_several_cases(self):
        listed = ((8,), ((1, ((1, 6),)), (2, ((2, 7),))), 0)
        self.same(shown_by(listed, ("self",), (0, 1), 0), (2,))
        self.same(shown_by(listed, ("cases", (((1,), 1), ((4,), 1), ((5,), 1), ((7,), 2))), (0, 1), 0), (4,))
        self.same(shown_by(listed, ("cases", (((1,), 1), ((7,), 2))), (0, 1), 0), None)

    def test_a_swap_at_the_same_position_undoes_it(self):
        for listed, wanted, rows in goals_with_rows(96, 40):
            for row in rows:
                for position in safe_swaps(listed, wanted, row):
                    self.assertIn(position, safe_swaps(listed, wanted, exchange(row, position)))
                    self.same(applied(listed, wanted, row, (position, position)), row)

    def test_few_rules(self):
        for wanted in (("self",), ANY):
            self.same(safe_swaps(NO_RULES, wanted, ()), ())
            self.same(safe_swaps(ONE_RULE, wanted, (0,)), ())
        for position in (0, 1, -1, -2, None, False):
            self.bad("position", shown_by, NO_RULES, ("self",), (), position)
            self.bad("position", shown_by, ONE_RULE, ("self",), (0,), position)
        # Two rules: the only position is 0.
        self.same(shown_by(TWO, ("self",), (0, 1), 0), (1,))
        self.bad("position", shown_by, TWO, ("self",), (0, 1), 1)

    def test_rows_that_are_not_right(self):
        tried = 0
        for listed, wanted in some_wanted(97, 60):
            rows = right_rows(listed, wanted)
            for row in all_rows(listed):
                if row not in rows:
                    tried += 1
                    self.not_possible("wrong", safe_swaps, listed, wanted, row)
                    for position in positions_of(listed):
                        self.not_possible("wrong", shown_by, listed, wanted, row, position)
        self.assertGreater(tried, 100)
        self.not_possible("wrong", safe_swaps, NO_RULES, ("cases", (((2,), 1),)), ())

    def test_wrong_arguments(self):
        position = ("position", 1, NOT_POSITIONS)
        for wanted in SOME_WANTED:
            for row in BOTH_ROWS:
                told = (LISTED_ARGUMENT, ("wanted", wanted, NOT_WANTED), ("row", row, NOT_ROWS))
                self.check_arguments(safe_swaps, *told)
                self.check_arguments(shown_by, *told, position)


class AppliedTest(RowsTest):

    def walk(self, rows, row, positions):
        """The row behind the swaps, or None if one on the way is not among the right rows."""
        for position in positions:
            row = exchange(row, position)
            if row not in rows:
                return None
        return row

    def test_all_short_paths(self):
        tried = {True: 0, False: 0}
        for listed, wanted, rows in goals_with_rows(98, 50):
            for row in rows[:6]:
                for many in range(4):
                    for positions in itertools.product(positions_of(listed), repeat=many):
                        expected = self.walk(rows, row, positions)
                        tried[expected is not None] += 1
                        self.same(applied(listed, wanted, row, positions), expected, (listed, wanted, row, positions))
        self.assertGreater(min(tried.values()), 300)

    def test_a_path_of_no_swaps(self):
        for listed in EDGE_LISTS + (WIDEST, NO_RULES, ONE_RULE, SEVEN_CHAINED):
            self.same(applied(listed, ("self",), ascending(listed), ()), ascending(listed))

    def test_sixty_swaps_and_sixty_one(self):
        rng = random.Random(99)
        for many in (58, 59, 60):
            positions = tuple([rng.randrange(6) for _ in range(many)])
            row = tuple(rng.sample(range(7), 7))
            expected = row
            for position in positions:
                expected = exchange(expected, position)
            self.same(applied(SEVEN_FREE, ANY, row, positions), expected)
        self.same(applied(SOME, ("self",), (0, 2, 1), (1,) * 60), (0, 2, 1))
        self.same(applied(SOME, ("self",), (0, 2, 1), (1,) * 59), (0, 1, 2))
        for many in (61, 62, 100):
            self.bad("positions", applied, SOME, ("self",), (0, 2, 1), (1,) * many)
        # The last of sixty swaps is not safe, or the first one.
        self.same(applied(SOME, ("self",), (0, 2, 1), (1,) * 58 + (1, 1)), (0, 2, 1))
        self.same(applied(SOME, ("self",), (0, 2, 1), (1,) * 58 + (1, 0)), (1, 0, 2))
        self.same(applied(SOME, ("self",), (0, 1, 2), (1,) * 59 + (0,)), None)
        self.same(applied(SOME, ("self",), (0, 2, 1), (0,) + (1,) * 59), None)

    def test_each_row_on_the_way_has_to_be_right(self):
        # (2, 0, 1) on the way is wrong, though the row behind two such swaps is right.
        self.same(applied(SOME, ("self",), (0, 2, 1), (0, 0)), None)
        self.same(applied(SOME, ("self",), (0, 2, 1), (0, 1, 0)), None)
        self.same(applied(SOME, ("self",), (0, 2, 1), (1, 0, 1)), (1, 2, 0))

    def test_few_rules(self):
        for positions in ((0,), (0, 0), (1,), (-1,), [], None):
            self.bad("positions", applied, NO_RULES, ("self",), (), positions)
            self.bad("positions", applied, ONE_RULE, ("self",), (0,), positions)

    def test_rows_that_are_not_right(self):
        for listed, wanted in some_wanted(100, 60):
            rows = right_rows(listed, wanted)
            for row in all_rows(listed):
                if row not in rows:
                    self.not_possible("wrong", applied, listed, wanted, row, ())
                    for position in positions_of(listed):
                        self.not_possible("wrong", applied, listed, wanted, row, (position,))
                        self.not_possible("wrong", applied, listed, wanted, row, (position,) * 60)

    def test_wrong_arguments(self):
        positions = ("positions", (1, 0), NOT_WALKS)
        for wanted in SOME_WANTED:
            for row in BOTH_ROWS:
                told = (LISTED_ARGUMENT, ("wanted", wanted, NOT_WANTED), ("row", row, NOT_ROWS))
                self.check_arguments(applied, *told, positions)


class NearestTest(RowsTest):

    def check_nearest(self, listed, wanted, rows, row, number, place):
        found = [(apart(row, other), other) for other in rows if other[place] == number]
        expected = min(found)[1] if found else None
        self.same(nearest(listed, wanted, row, number, place), expected, (listed, wanted, row, number, place))
        return len([1 for far, _ in found if far == min(found)[0]])

    def test_each_rule_at_each_place(self):
        tried = {0: 0, 1: 0}
        for listed, wanted, rows in goals_with_rows(101, 120):
            for row in rows[::2]:
                for number, place in itertools.product(ascending(listed), ascending(listed)):
                    tried[min(1, self.check_nearest(listed, wanted, rows, row, number, place))] += 1
        self.assertGreater(min(tried[0], tried[1]), 100)

    def test_seven_rules(self):
        rng = random.Random(102)
        for listed, wanted, rows in goals_with_rows(103, 40, 7, 24):
            if len(rows) > 1:
                for _ in range(6):
                    row, number, place = rng.choice(rows), rng.choice(rows[0]), rng.randrange(len(rows[0]))
                    self.check_nearest(listed, wanted, rows, row, number, place)
        self.same(nearest(SEVEN_FREE, ANY, (6, 5, 4, 3, 2, 1, 0), 6, 6), (5, 4, 3, 2, 1, 0, 6))
        self.same(nearest(SEVEN_FREE, ANY, (6, 5, 4, 3, 2, 1, 0), 3, 0), (3, 6, 5, 4, 2, 1, 0))
        self.same(nearest(SEVEN_CHAINED, ("self",), (0, 1, 2, 3, 4, 5, 6), 3, 4), None)
        self.same(nearest(SEVEN_CHAINED, ("self",), (0, 1, 2, 3, 4, 5, 6), 3, 3), (0, 1, 2, 3, 4, 5, 6))

    def test_the_row_itself(self):
        for listed, wanted, rows in goals_with_rows(104, 60):
            for row in rows:
                for place, number in enumerate(row):
                    self.same(nearest(listed, wanted, row, number, place), row)

    def test_the_first_of_several(self):
        rules = ((1, ((0, 2),)), (0, ((0, 3),)), (1, ((0, 3),)), (0, ((0, 1),)), (0, ((3, 3),)))
        listed, wanted = ((4,), rules, 0), ("cases", (((0,), 1), ((1,), 1), ((2,), 1), ((3,), 0)))
        row = (0, 1, 2, 3, 4)
        self.same([distance(listed, row, other) for other in ((0, 3, 4, 1, 2), (0, 4, 2, 1, 3))], [4, 4])
        self.same([is_right(listed, wanted, other) for other in ((0, 3, 4, 1, 2), (0, 4, 2, 1, 3))], [True, True])
        self.same(nearest(listed, wanted, row, 1, 3), (0, 3, 4, 1, 2))

    def test_several_at_the_same_distance(self):
        tried = 0
        for listed, wanted, rows in crowded_goals(105, 100):
            for row in rows[::20]:
                for number, place in itertools.product(ascending(listed), ascending(listed)):
                    tried += self.check_nearest(listed, wanted, rows, row, number, place) > 1
        self.assertGreater(tried, 20)

    def test_the_nearest_one_and_not_the_first_right_one(self):
        self.same(nearest(SOME, ("self",), (0, 1, 2), 2, 1), (0, 2, 1))
        self.same(nearest(SOME, ("self",), (1, 0, 2), 2, 1), (1, 2, 0))
        free = ((8,), SEVEN_FREE[1][:3], 0)
        self.same(nearest(free, ANY, (2, 1, 0), 1, 0), (1, 2, 0))
        self.same(nearest(free, ANY, (0, 1, 2), 0, 1), (1, 0, 2))

    def test_few_rules(self):
        self.same(nearest(ONE_RULE, ("self",), (0,), 0, 0), (0,))
        self.bad("place", nearest, ONE_RULE, ("self",), (0,), 0, 1)
        self.bad("number", nearest, ONE_RULE, ("self",), (0,), 1, 0)
        self.bad("number", nearest, NO_RULES, ("self",), (), 0, 0)

    def test_rows_that_are_not_right(self):
        for listed, wanted in some_wanted(106, 60):
            rows = right_rows(listed, wanted)
            for row in all_rows(listed):
                if row not in rows and listed[1]:
                    self.not_possible("wrong", nearest, listed, wanted, row, 0, len(row) - 1)

    def test_wrong_arguments(self):
        behind = ("number", 2, NOT_NUMBERS), ("place", 0, NOT_NUMBERS)
        for wanted in SOME_WANTED:
            for row in BOTH_ROWS:
                told = (LISTED_ARGUMENT, ("wanted", wanted, NOT_WANTED), ("row", row, NOT_ROWS))
                self.check_arguments(nearest, *told, *behind)


class AllTest(RowsTest):

    def test_functions_are_defined_in_their_file(self):
        for name in ("distance", "safe_swaps", "shown_by", "applied", "nearest"):
            self.assertEqual(getattr(swaps_file, name).__module__, "rulerows.swaps")

    def test_no_right_row_at_all(self):
        tried = 0
        for listed, wanted in goals_without_rows(107, 120):
            for row in all_rows(listed)[:4]:
                tried += 1
                self.not_possible("wrong", safe_swaps, listed, wanted, row)
                self.not_possible("wrong", applied, listed, wanted, row, ())
        self.assertGreater(tried, 40)

    def test_twelve_pairs_and_thirteen(self):
        listed = ((8, 8), ((2, ((2, 2), (3, 3))), (1, ((0, 7), (0, 7)))), 0)
        twelve, thirteen = ("cases", WIDE_TWELVE), ("cases", WIDE_THIRTEEN)
        self.same(safe_swaps(listed, twelve, (1, 0)), ())
        self.same(shown_by(listed, twelve, (1, 0), 0), (2, 3))
        self.same(applied(listed, twelve, (1, 0), (0,)), None)
        self.same(nearest(listed, twelve, (1, 0), 0, 0), None)
        self.same(nearest(listed, twelve, (1, 0), 0, 1), (1, 0))
        self.bad("wanted", safe_swaps, listed, thirteen, (1, 0))
        self.bad("wanted", shown_by, listed, thirteen, (1, 0), 0)
        self.bad("wanted", applied, listed, thirteen, (1, 0), (0,))
        self.bad("wanted", nearest, listed, thirteen, (1, 0), 0, 0)

    def test_many_cases(self):
        self.same(safe_swaps(WIDEST, ("self",), (0, 1, 2)), ())
        self.same(shown_by(WIDEST, ("self",), (0, 1, 2), 1), (7, 7, 7))
        self.same(shown_by(WIDEST, ("self",), (0, 1, 2), 0), (4, 0, 2))
        self.same(first_wrong(WIDEST, ("self",), (1, 0, 2)), (4, 0, 2))

    def test_example_of_point_61(self):
        self.same([row for row in all_rows(SOME) if is_right(SOME, ("self",), row)], right_rows(SOME, ("self",)))
        self.same([row for row in all_rows(SOME) if row[0] == 2 and is_right(SOME, ("self",), row)], [])
        for row in ((0, 2, 1), (1, 2, 0), (0, 1, 2)):
            self.same(is_right(SOME, ("self",), row), True)
        for row in right_rows(SOME, ("self",)):
            self.same(nearest(SOME, ("self",), row, 2, 0), None)
            self.assertIsNotNone(nearest(SOME, ("self",), row, 2, 1))
            self.assertIsNotNone(nearest(SOME, ("self",), row, 2, 2))


if __name__ == "__main__":
    unittest.main()
