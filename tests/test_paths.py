"""paths.py: points 53 to 55, 57, 58 and 60."""

import itertools
import random
import unittest

from rulerows import paths as paths_file
from rulerows.paths import accepts_only, accepts_path, is_only, only_evidence, path
from rulerows.swaps import applied, distance, safe_swaps
from tests.support import (
    EDGE_LISTS, LISTED, NOT_CASES, NOT_LISTS, NOT_ROWS, NOT_WALKS, NOT_WANTED, NO_RULES, ODD_VALUES, ONE_RULE,
    SEVEN_CHAINED, SEVEN_FREE, SOME, SOME_WANTED, TWO, WIDEST, WIDE_THIRTEEN, WIDE_TWELVE, RowsTest,
    all_cases, all_rows, apart, ascending, changed_values, crowded_goals, deep, exchange, goals_with_rows, kinds,
    matching, right_rows, some_wanted, wanted_actions,
)

ANY = ("cases", ())
LISTED_ARGUMENT = ("listed", LISTED, NOT_LISTS)
BOTH_ROWS = ((0, 1, 2), (1, 0, 2))


def shortest_paths(rows, row):
    """For each right row the first one of the shortest paths over right rows, found step by step."""
    found, level = {row: ()}, {row: ()}
    while level:
        following = {}
        for reached, positions in level.items():
            for position in range(len(row) - 1):
                behind = exchange(reached, position)
                if behind in rows and behind not in found:
                    longer = (*positions, position)
                    following[behind] = min(longer, following.get(behind, longer))
        found.update(following)
        level = following
    return found


def is_walk(rows, row, other, value):
    """Whether it is a path over right rows, with as many swaps as the distance."""
    if len(value) != apart(row, other):
        return False
    for position in value:
        row = exchange(row, position)
        if row not in rows:
            return False
    return row == other


def forbidding(listed, wanted, row, position):
    """All cases that can stand for the position in the evidence of point 58."""
    first, second = row[position], row[position + 1]
    found = []
    for case, action in wanted_actions(listed, wanted).items():
        standing = matching(listed, case)
        if first in standing and second in standing and not set(standing) & set(row[:position]):
            if action != listed[1][second][0]:
                found.append(case)
    return found


class PathTest(RowsTest):

    def check_paths(self, listed, wanted, rows, chosen):
        for row in chosen:
            expected = shortest_paths(set(rows), row)
            self.same(sorted(expected), rows)
            for other in rows:
                told = (listed, wanted, row, other)
                got = path(listed, wanted, row, other)
                self.same(got, expected[other], told)
                self.same(len(got), apart(row, other), told)
                self.same(accepts_path(listed, wanted, row, other, got), True, told)
                self.same(applied(listed, wanted, row, got), other, told)

    def test_all_pairs_of_right_rows(self):
        for listed, wanted, rows in goals_with_rows(111, 80):
            self.check_paths(listed, wanted, rows, rows)

    def test_several_ways(self):
        for listed, wanted, rows in crowded_goals(112, 25):
            self.check_paths(listed, wanted, rows, rows[::17])

    def test_all_tuples_of_so_many_positions(self):
        tried = 0
        for listed, wanted, rows in goals_with_rows(113, 40):
            for row, other in itertools.product(rows[:5], rows[-5:]):
                if apart(row, other) <= 4:
                    able = itertools.product(range(max(0, len(row) - 1)), repeat=apart(row, other))
                    paths = [positions for positions in able if applied(listed, wanted, row, positions) == other]
                    tried += len(paths) > 1
                    self.same(path(listed, wanted, row, other), min(paths))
        self.assertGreater(tried, 20)

    def test_seven_rules(self):
        rng = random.Random(114)
        rows = all_rows(SEVEN_FREE)
        for _ in range(20):
            row, other = rng.choice(rows), rng.choice(rows)
            got = path(SEVEN_FREE, ANY, row, other)
            self.same(len(got), distance(SEVEN_FREE, row, other))
            self.same(applied(SEVEN_FREE, ANY, row, got), other)
        expected = (0, 1, 0, 2, 1, 0, 3, 2, 1, 0, 4, 3, 2, 1, 0, 5, 4, 3, 2, 1, 0)
        self.same(path(SEVEN_FREE, ANY, (0, 1, 2, 3, 4, 5, 6), (6, 5, 4, 3, 2, 1, 0)), expected)
        for listed, wanted, found in goals_with_rows(115, 20, 7, 24):
            row, other = rng.choice(found), rng.choice(found)
            got = path(listed, wanted, row, other)
            self.same(len(got), apart(row, other))
            self.same(applied(listed, wanted, row, got), other)

    def test_no_swaps(self):
        for listed in EDGE_LISTS + (WIDEST, NO_RULES, ONE_RULE, SEVEN_CHAINED):
            row = ascending(listed)
            self.same(path(listed, ("self",), row, row), ())
            self.same(accepts_path(listed, ("self",), row, row, ()), True)
            self.same(accepts_path(listed, ("self",), row, row, (0, 0)), False)
            self.same(accepts_path(listed, ("self",), row, row, (0,)), False)

    def test_rows_that_are_not_right(self):
        tried = 0
        for listed, wanted in some_wanted(116, 80):
            rows = right_rows(listed, wanted)
            for row, other in itertools.product(all_rows(listed)[:8], all_rows(listed)[-8:]):
                if row not in rows or other not in rows:
                    tried += 1
                    self.not_possible("wrong", path, listed, wanted, row, other)
                    self.not_possible("wrong", accepts_path, listed, wanted, row, other, None)
                    self.not_possible("wrong", accepts_path, listed, wanted, row, other, ())
        self.assertGreater(tried, 300)
        # Each of the two alone.
        self.not_possible("wrong", path, SOME, ("self",), (2, 0, 1), (0, 1, 2))
        self.not_possible("wrong", path, SOME, ("self",), (0, 1, 2), (2, 0, 1))
        self.not_possible("wrong", accepts_path, SOME, ("self",), (2, 0, 1), (0, 1, 2), (0, 1))
        self.not_possible("wrong", accepts_path, SOME, ("self",), (0, 1, 2), (2, 0, 1), (1, 0))
        self.not_possible("wrong", accepts_path, SOME, ("self",), (2, 0, 1), (2, 0, 1), ())

    def test_wrong_arguments(self):
        for wanted in SOME_WANTED:
            for row, other in itertools.product(BOTH_ROWS, BOTH_ROWS):
                told = LISTED_ARGUMENT, ("wanted", wanted, NOT_WANTED), ("row", row, NOT_ROWS), ("other", other, NOT_ROWS)
                self.check_arguments(path, *told)
                for value in ((), None, (0, 1)):
                    self.check_arguments(accepts_path, *told, ("value", value, ()))


class AcceptsPathTest(RowsTest):

    def test_all_short_values(self):
        tried = {True: 0, False: 0}
        for listed, wanted, rows in goals_with_rows(117, 80):
            for row, other in itertools.product(rows[:4], rows[-4:]):
                for many in range(5):
                    for value in itertools.product(range(max(0, len(row) - 1)), repeat=many):
                        expected = is_walk(rows, row, other, value)
                        tried[expected] += 1
                        got = accepts_path(listed, wanted, row, other, value)
                        self.same(got, expected, (listed, wanted, row, other, value))
        self.assertGreater(min(tried.values()), 200)

    def test_with_more_swaps_than_the_distance(self):
        self.same(accepts_path(SOME, ("self",), (0, 2, 1), (1, 2, 0), (1, 0, 1)), True)
        self.same(accepts_path(SOME, ("self",), (0, 2, 1), (1, 2, 0), (1, 1, 1, 0, 1)), False)
        self.same(accepts_path(SOME, ("self",), (0, 2, 1), (0, 2, 1), (1, 1)), False)
        self.same(accepts_path(SOME, ("self",), (0, 2, 1), (1, 2, 0), (0, 1, 0)), False)
        self.same(accepts_path(SOME, ("self",), (0, 2, 1), (1, 0, 2), (1, 0)), True)
        self.same(accepts_path(SOME, ("self",), (0, 2, 1), (1, 0, 2), (1, 1)), False)
        self.same(accepts_path(SOME, ("self",), (0, 2, 1), (1, 0, 2), (1,)), False)

    def test_other_paths_than_the_told_one(self):
        row, other = (0, 1, 2, 3, 4, 5, 6), (1, 0, 3, 2, 5, 4, 6)
        self.same(path(SEVEN_FREE, ANY, row, other), (0, 2, 4))
        for value in itertools.permutations((0, 2, 4)):
            self.same(accepts_path(SEVEN_FREE, ANY, row, other, value), True)
        self.same(accepts_path(SEVEN_FREE, ANY, row, other, (0, 2, 2)), False)
        self.same(accepts_path(SEVEN_FREE, ANY, row, other, (0, 2, 5)), False)

    def test_values_of_other_kinds(self):
        row, other = (0, 2, 1), (1, 2, 0)
        for value in ODD_VALUES + NOT_WALKS + (
            [1, 0, 1], (True, 0, 1), (1, False, 1), (1, 0, True), (True, False, True), "101", (1, 0, "1"), (1, 0, None),
            (1, 0), (1, 0, 1, 0), ((1, 0, 1),), (1, 0, (1,)), (1, 0, 2), (1, 0, -1), (-1, 0, 1), (1, 0, 10 ** 30),
        ):
            self.same(accepts_path(SOME, ("self",), row, other, value), False, value)
        for value in ODD_VALUES:
            self.same(accepts_path(NO_RULES, ("self",), (), (), value), kinds(value) == kinds(()), value)
            self.same(accepts_path(ONE_RULE, ("self",), (0,), (0,), value), kinds(value) == kinds(()), value)

    def test_very_deep_values(self):
        down = deep()
        for value in (down, (down, 0, 1), (1, 0, down), [down]):
            self.assertTrue(accepts_path(SOME, ("self",), (0, 2, 1), (1, 2, 0), value) is False)

    def test_changed_paths(self):
        rng = random.Random(118)
        for listed, wanted, rows in goals_with_rows(119, 80):
            row, other = rng.choice(rows), rng.choice(rows)
            for value in changed_values(rng, path(listed, wanted, row, other), 8):
                got = accepts_path(listed, wanted, row, other, value)
                able = isinstance(value, tuple) and all(type(item) is int and item in range(len(row) - 1) for item in value)
                self.same(got, able and is_walk(rows, row, other, value), (listed, wanted, row, other, value))


class OnlyTest(RowsTest):

    def test_each_right_row(self):
        tried = {True: 0, False: 0}
        for listed, wanted, rows in goals_with_rows(121, 300):
            for row in rows:
                only = len(rows) == 1
                tried[only] += 1
                told = (listed, wanted, row)
                self.same(is_only(listed, wanted, row), only, told)
                self.same(safe_swaps(listed, wanted, row) == (), only, told)
                expected = None
                if only:
                    places = range(max(0, len(row) - 1))
                    expected = tuple([forbidding(listed, wanted, row, place)[0] for place in places])
                    self.same(accepts_only(listed, wanted, row, expected), True, told)
                self.same(only_evidence(listed, wanted, row), expected, told)
        self.assertGreater(min(tried.values()), 60)

    def test_seven_rules(self):
        row = ascending(SEVEN_CHAINED)
        evidence = ((1,), (2,), (3,), (4,), (5,), (6,))
        self.same(is_only(SEVEN_CHAINED, ("self",), row), True)
        self.same(only_evidence(SEVEN_CHAINED, ("self",), row), evidence)
        self.same(accepts_only(SEVEN_CHAINED, ("self",), row, evidence), True)
        for place in range(6):
            for value in (place, place + 2):
                other = evidence[:place] + ((value,),) + evidence[place + 1:]
                self.same(accepts_only(SEVEN_CHAINED, ("self",), row, other), False)
        self.same(is_only(SEVEN_FREE, ANY, row), False)
        self.same(only_evidence(SEVEN_FREE, ANY, row), None)

    def test_one_safe_swap_at_one_end(self):
        # The last two rules have nothing in common, so that just the last swap is safe; then likewise the first two.
        last = ((8,), SEVEN_CHAINED[1][:3] + ((1, ((6, 7),)),), 2)
        self.same((safe_swaps(last, ("self",), (0, 1, 2, 3)), is_only(last, ("self",), (0, 1, 2, 3))), ((2,), False))
        self.same(only_evidence(last, ("self",), (0, 1, 2, 3)), None)
        first = ((8,), ((1, ((6, 7),)),) + ((0, ((0, 1),)), (1, ((1, 6),)), (0, ((2, 7),))), 2)
        self.same((safe_swaps(first, ("self",), (0, 1, 2, 3)), is_only(first, ("self",), (0, 1, 2, 3))), ((0,), False))
        self.same(only_evidence(first, ("self",), (0, 1, 2, 3)), None)

    def test_the_first_of_several_cases(self):
        listed = ((8,), ((1, ((1, 6),)), (2, ((2, 7),))), 0)
        self.same(only_evidence(listed, ("self",), (0, 1)), ((2,),))
        self.same(only_evidence(listed, ("cases", (((1,), 1), ((4,), 1), ((5,), 1), ((7,), 2))), (0, 1)), ((4,),))
        for value in range(8):
            self.same(accepts_only(listed, ("self",), (0, 1), ((value,),)), 2 <= value <= 6)
            given = ("cases", (((1,), 1), ((4,), 1), ((5,), 1), ((7,), 2)))
            self.same(accepts_only(listed, given, (0, 1), ((value,),)), value in (4, 5))

    def test_few_rules(self):
        for listed, row in ((NO_RULES, ()), (ONE_RULE, (0,))):
            for wanted in (("self",), ANY):
                self.same(is_only(listed, wanted, row), True)
                self.same(only_evidence(listed, wanted, row), ())
                for value in ODD_VALUES + (((0,),), ((1,), (1,))):
                    self.same(accepts_only(listed, wanted, row, value), kinds(value) == kinds(()), value)

    def test_rows_that_are_not_right(self):
        tried = 0
        for listed, wanted in some_wanted(122, 80):
            rows = right_rows(listed, wanted)
            for row in all_rows(listed):
                if row not in rows:
                    tried += 1
                    self.not_possible("wrong", is_only, listed, wanted, row)
                    self.not_possible("wrong", only_evidence, listed, wanted, row)
                    for value in (None, (), ((0,) * len(listed[0]),) * (len(row) - 1)):
                        self.not_possible("wrong", accepts_only, listed, wanted, row, value)
        self.assertGreater(tried, 100)

    def test_wrong_arguments(self):
        for wanted in SOME_WANTED:
            for row in BOTH_ROWS:
                told = LISTED_ARGUMENT, ("wanted", wanted, NOT_WANTED), ("row", row, NOT_ROWS)
                self.check_arguments(is_only, *told)
                self.check_arguments(only_evidence, *told)
                for value in ((), None, ((0, 0), (0, 1))):
                    self.check_arguments(accepts_only, *told, ("value", value, ()))


class AcceptsOnlyTest(RowsTest):

    def test_each_case_for_each_position(self):
        tried = {True: 0, False: 0}
        for listed, wanted, rows in goals_with_rows(123, 200, 3, 8):
            for row in rows:
                able = [forbidding(listed, wanted, row, place) for place in range(max(0, len(row) - 1))]
                for value in itertools.product(all_cases(listed[0]), repeat=len(able)):
                    expected = all(case in cases for case, cases in zip(value, able))
                    tried[expected] += 1
                    got = accepts_only(listed, wanted, row, value)
                    self.same(got, expected, (listed, wanted, row, value))
                    if got:
                        self.same(len(rows), 1)
        self.assertGreater(min(tried.values()), 100)

    def test_cases_of_one_position_only(self):
        listed, row = ((8,), SEVEN_CHAINED[1][:3], 2), (0, 1, 2)
        self.same(only_evidence(listed, ("self",), row), ((1,), (2,)))
        for value in itertools.product(range(8), repeat=2):
            self.same(accepts_only(listed, ("self",), row, tuple([(item,) for item in value])), value == (1, 2))
        # A rule further ahead matches the case of the second position, too.
        ahead = ((8,), ((0, ((0, 3),)), (1, ((1, 4),)), (0, ((2, 5),))), 2)
        self.same(only_evidence(ahead, ("self",), row), ((1,), (4,)))
        self.same(accepts_only(ahead, ("self",), row, ((1,), (3,))), False)
        self.same(accepts_only(ahead, ("self",), row, ((2,), (4,))), True)
        self.same(accepts_only(ahead, ("self",), row, ((4,), (4,))), False)
        self.same(accepts_only(ahead, ("self",), row, ((0,), (4,))), False)

    def test_values_of_other_kinds(self):
        listed, row = ((8,), SEVEN_CHAINED[1][:3], 2), (0, 1, 2)
        for value in ODD_VALUES + NOT_CASES + (
            [(1,), (2,)], ((1,), [2]), ([1], (2,)), ((1,),), ((1,), (2,), (3,)), ((1,), (2,), ()), ((2,), (1,)), (1, 2),
            ((True,), (2,)), ((1,), 2), ((1,), None), (None, (2,)), ((1,), (2, 0)), ((1,), ()), ((1,), ("2",)),
            ((1,), (8,)), ((1,), (-1,)), (((1,), (2,)),), "12", ((1,), (2.5,)), ((1,), ((2,),)), ((1,), (True,)),
        ):
            self.same(accepts_only(listed, ("self",), row, value), False, value)

    def test_very_deep_values(self):
        down = deep()
        for value in (down, (down,), ((down,),), [down]):
            self.assertTrue(accepts_only(TWO, ("self",), (0, 1), value) is False)

    def test_changed_evidence(self):
        rng = random.Random(124)
        tried = {True: 0, False: 0}
        for listed, wanted, rows in goals_with_rows(125, 400):
            if len(rows) == 1:
                row = rows[0]
                able = [forbidding(listed, wanted, row, place) for place in range(max(0, len(row) - 1))]
                for value in changed_values(rng, only_evidence(listed, wanted, row), 8):
                    right = isinstance(value, tuple) and len(value) == len(able)
                    right = right and all(
                        kinds(case) in [kinds(other) for other in cases] for case, cases in zip(value, able)
                    )
                    tried[right] += 1
                    self.same(accepts_only(listed, wanted, row, value), right, (listed, wanted, row, value))
        self.assertGreater(min(tried.values()), 20)


class AllTest(RowsTest):

    def test_functions_are_defined_in_their_file(self):
        for name in ("path", "accepts_path", "is_only", "only_evidence", "accepts_only"):
            self.assertEqual(getattr(paths_file, name).__module__, "rulerows.paths")

    def test_twelve_pairs_and_thirteen(self):
        listed = ((8, 8), ((2, ((2, 2), (3, 3))), (1, ((0, 7), (0, 7)))), 0)
        twelve, thirteen = ("cases", WIDE_TWELVE), ("cases", WIDE_THIRTEEN)
        self.same(path(listed, twelve, (1, 0), (1, 0)), ())
        self.same(is_only(listed, twelve, (1, 0)), True)
        self.same(only_evidence(listed, twelve, (1, 0)), ((2, 3),))
        self.same(accepts_only(listed, twelve, (1, 0), ((2, 3),)), True)
        self.bad("wanted", path, listed, thirteen, (1, 0), (1, 0))
        self.bad("wanted", accepts_path, listed, thirteen, (1, 0), (1, 0), ())
        self.bad("wanted", is_only, listed, thirteen, (1, 0))
        self.bad("wanted", only_evidence, listed, thirteen, (1, 0))
        self.bad("wanted", accepts_only, listed, thirteen, (1, 0), ())

    def test_many_cases(self):
        self.same(only_evidence(WIDEST, ("self",), (0, 1, 2)), ((4, 0, 2), (7, 7, 7)))
        self.same(accepts_only(WIDEST, ("self",), (0, 1, 2), ((7, 3, 5), (7, 7, 7))), True)
        self.same(accepts_only(WIDEST, ("self",), (0, 1, 2), ((7, 3, 6), (7, 7, 7))), False)

    def test_example_of_point_61(self):
        rows = right_rows(SOME, ("self",))
        for row, other in itertools.product(rows, rows):
            self.same(accepts_path(SOME, ("self",), row, other, path(SOME, ("self",), row, other)), True)
        self.same([is_only(SOME, ("self",), row) for row in rows], [False] * 4)

    def test_examples_of_the_interface(self):
        self.check_examples("""
>>> from rulerows.paths import accepts_only, accepts_path, is_only, only_evidence, path
>>> from rulerows.swaps import applied, distance, nearest, safe_swaps, shown_by
>>> some = ((8,), ((1, ((0, 3),)), (1, ((2, 6),)), (2, ((2, 3),))), 0)
>>> safe_swaps(some, ("self",), (0, 2, 1)), shown_by(some, ("self",), (0, 2, 1), 0), shown_by(some, ("self",), (0, 2, 1), 1)
((1,), (2,), None)
>>> distance(some, (0, 2, 1), (1, 2, 0)), path(some, ("self",), (0, 2, 1), (1, 2, 0)), applied(some, ("self",), (0, 2, 1), (1, 0, 1))
(3, (1, 0, 1), (1, 2, 0))
>>> accepts_path(some, ("self",), (0, 2, 1), (1, 2, 0), (0, 1, 0)), applied(some, ("self",), (0, 2, 1), (0,)) is None
(False, True)
>>> nearest(some, ("self",), (0, 1, 2), 2, 1), nearest(some, ("self",), (0, 1, 2), 2, 0) is None
((0, 2, 1), True)
>>> two = ((4,), ((1, ((0, 2),)), (2, ((1, 3),))), 0)
>>> is_only(two, ("self",), (0, 1)), only_evidence(two, ("self",), (0, 1)), accepts_only(two, ("self",), (0, 1), ((2,),))
(True, ((1,),), True)
>>> is_only(some, ("self",), (0, 1, 2)), only_evidence(some, ("self",), (0, 1, 2)) is None
(False, True)
""")


if __name__ == "__main__":
    unittest.main()
