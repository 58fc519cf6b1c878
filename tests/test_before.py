"""before.py: points 62 and 65 to 72."""

import itertools
import unittest

from rulerows import before as before_file
from rulerows.before import always_before, between, choice, ends, needed_sets, places, relation
from rulerows.ready import placed_without
from tests.support import (
    EDGE_LISTS, LISTED, LOOSE, LOOSE_LIST, NOT_LISTS, NOT_NUMBERS, NOT_WANTED, NO_RULES, ONE_RULE, SEVEN_CHAINED,
    SEVEN_FREE, SOME, SOME_WANTED, TWO, WIDEST, WIDE_THIRTEEN, WIDE_TWELVE, RowsTest,
    all_rows, ascending, coming_first, crowded_goals, goals_with_rows, goals_without_rows, ready_after, right_rows,
)

ANY = ("cases", ())
AGAINST = ("cases", (((1,), 3),))
LISTED_ARGUMENT = ("listed", LISTED, NOT_LISTS)
# The rules 0 and 1 have to stand before rule 2, and rule 2 before rule 3.
FORK = ((8,), ((1, ((0, 1),)), (1, ((3, 4),)), (2, ((0, 5),)), (1, ((0, 7),))), 0)


def always(rows, first, second):
    return all(row.index(first) < row.index(second) for row in rows)


def needing(listed, wanted, number):
    """The needed sets of the rule by the words of point 66."""
    able = []
    for chosen in coming_first(listed, wanted):
        if number not in chosen and number in ready_after(listed, wanted, chosen):
            able.append(chosen)
    return [chosen for chosen in able if not any(set(part) < set(chosen) for part in able)]


def pool(seed):
    """Goals of all kinds with right rows, among them such with several needed sets."""
    return goals_with_rows(seed, 150, 5) + crowded_goals(seed + 1, 20) + [(SOME, ("self",), right_rows(SOME, ("self",)))]


class AlwaysBeforeTest(RowsTest):

    def test_all_pairs(self):
        tried = {"before": 0, "after": 0, "both": 0}
        for listed, wanted, rows in pool(131):
            expected = []
            for first, second in itertools.permutations(ascending(listed), 2):
                word = "both"
                if always(rows, first, second):
                    expected.append((first, second))
                    word = "before"
                elif always(rows, second, first):
                    word = "after"
                tried[word] += 1
                self.same(relation(listed, wanted, first, second), word, (listed, wanted, first, second))
                self.same(second in placed_without(listed, wanted, first), (first, second) not in expected)
            self.same(always_before(listed, wanted), expected, (listed, wanted))
        self.assertGreater(min(tried.values()), 100)

    def test_seven_rules(self):
        for listed, wanted, rows in goals_with_rows(133, 30, 7, 24):
            pairs = list(itertools.permutations(ascending(listed), 2))
            expected = [(first, second) for first, second in pairs if always(rows, first, second)]
            self.same(always_before(listed, wanted), expected, (listed, wanted))
        self.same(always_before(SEVEN_FREE, ANY), [])
        self.same(always_before(SEVEN_CHAINED, ("self",)), list(itertools.combinations(range(7), 2)))
        self.same(relation(SEVEN_CHAINED, ("self",), 0, 6), "before")
        self.same(relation(SEVEN_CHAINED, ("self",), 6, 0), "after")
        self.same(relation(SEVEN_FREE, ANY, 6, 0), "both")

    def test_one_before_another_and_that_before_a_third(self):
        for listed, wanted, _ in pool(134):
            pairs = always_before(listed, wanted)
            for (first, second), (third, fourth) in itertools.product(pairs, pairs):
                if second == third:
                    self.assertIn((first, fourth), pairs)

    def test_further_cases_keep_what_stands_before(self):
        tried = 0
        for listed, wanted, _ in goals_with_rows(135, 120):
            if wanted[0] == "cases":
                for many in range(len(wanted[1])):
                    fewer = always_before(listed, ("cases", wanted[1][:many]))
                    tried += len(fewer)
                    self.assertLessEqual(set(fewer), set(always_before(listed, wanted)))
        self.assertGreater(tried, 20)

    def test_few_rules(self):
        self.same(always_before(NO_RULES, ("self",)), [])
        self.same(always_before(ONE_RULE, ("self",)), [])
        self.same(always_before(TWO, ("self",)), [(0, 1)])
        self.same(always_before(TWO, ("cases", (((1,), 2),))), [(1, 0)])
        for number in (0, 1, -1, None):
            self.bad("first", relation, NO_RULES, ("self",), number, 0)
            self.bad("second", relation, ONE_RULE, ("self",), 0, number)

    def test_the_list_is_new_each_time(self):
        self.check_new_list(always_before, TWO, ("self",))
        self.check_new_list(always_before, SOME, ("self",))


class PlacesTest(RowsTest):

    def test_each_rule(self):
        tried = 0
        for listed, wanted, rows in pool(136):
            for number in ascending(listed):
                found = sorted({row.index(number) for row in rows})
                tried += len(found) > 1
                self.same(places(listed, wanted, number), (found[0], found[-1]), (listed, wanted, number))
                self.same(found, list(range(found[0], found[-1] + 1)))
        self.assertGreater(tried, 100)

    def test_seven_rules(self):
        for listed, wanted, rows in goals_with_rows(137, 25, 7, 24):
            for number in ascending(listed):
                found = {row.index(number) for row in rows}
                self.same(places(listed, wanted, number), (min(found), max(found)), (listed, wanted, number))
        for number in range(7):
            self.same(places(SEVEN_FREE, ANY, number), (0, 6))
            self.same(places(SEVEN_CHAINED, ("self",), number), (number, number))

    def test_few_rules(self):
        self.same(places(ONE_RULE, ("self",), 0), (0, 0))
        self.same((places(TWO, ("self",), 0), places(TWO, ("self",), 1)), ((0, 0), (1, 1)))
        self.same([places(FORK, ("self",), number) for number in range(4)], [(0, 1), (0, 1), (2, 2), (3, 3)])
        self.bad("number", places, NO_RULES, ("self",), 0)


class NeededSetsTest(RowsTest):

    def test_each_rule(self):
        tried = {1: 0, 2: 0}
        for listed, wanted, rows in pool(138):
            several = []
            for number in ascending(listed):
                expected = needing(listed, wanted, number)
                tried[min(2, len(expected))] += 1
                several += [number] * (len(expected) > 1)
                self.same(needed_sets(listed, wanted, number), expected, (listed, wanted, number))
                for row in rows:
                    ahead = set(row[:row.index(number)])
                    self.assertTrue(any(set(chosen) <= ahead for chosen in expected))
            self.same(choice(listed, wanted), several[0] if several else None, (listed, wanted))
        self.assertGreater(min(tried.values()), 20)

    def test_seven_rules(self):
        for listed, wanted, _ in goals_with_rows(139, 25, 7, 24):
            for number in ascending(listed):
                self.same(needed_sets(listed, wanted, number), needing(listed, wanted, number), (listed, wanted, number))
        for number in range(7):
            self.same(needed_sets(SEVEN_FREE, ANY, number), [()])
            self.same(needed_sets(SEVEN_CHAINED, ("self",), number), [tuple(range(number))])

    def test_fewer_rules_first_and_otherwise_ascending(self):
        # Rule 3 needs rule 2, or both others.
        listed = ((8,), ((1, ((0, 2),)), (1, ((3, 5),)), (1, ((0, 5),)), (2, ((0, 5),))), 0)
        self.same(needed_sets(listed, ("self",), 3), [(2,), (0, 1)])
        self.same(choice(listed, ("self",)), 3)
        # Rule 2 needs any one of the others, of which each comes first.
        listed = ((8,), ((1, ((0, 2),)), (1, ((0, 5),)), (2, ((0, 2),)), (1, ((0, 7),))), 0)
        self.same(needed_sets(listed, ("self",), 2), [(0,), (1,), (3,)])

    def test_a_needed_set_can_come_first_itself(self):
        # Rule 2 is ready behind rule 1, but rule 1 needs rule 0 ahead.
        self.same(needed_sets(FORK, ("self",), 3), [(0, 1, 2)])
        chain = ((8,), ((1, ((0, 3),)), (2, ((2, 5),)), (1, ((5, 7),))), 0)
        self.same([needed_sets(chain, ("self",), number) for number in range(3)], [[()], [(0,)], [(0, 1)]])

    def test_rows_of_pairs(self):
        tried = {True: 0, False: 0}
        for listed, wanted, rows in pool(140):
            pairs = always_before(listed, wanted)
            among = [row for row in all_rows(listed) if all(row.index(one) < row.index(other) for one, other in pairs)]
            tried[among == rows] += 1
            self.same(choice(listed, wanted) is None, among == rows, (listed, wanted))
        self.assertGreater(min(tried.values()), 5)

    def test_the_choice_is_the_first_rule_of_several(self):
        listed = ((8,), ((2, ((2, 3),)), (1, ((0, 3),)), (1, ((2, 6),)), (2, ((3, 3),))), 0)
        wanted = ("list", ((8,), (listed[1][1], listed[1][2]), 0))
        self.same([len(needed_sets(listed, wanted, number)) for number in range(4)], [2, 1, 1, 2])
        self.same(choice(listed, wanted), 0)

    def test_few_rules(self):
        self.same(needed_sets(ONE_RULE, ("self",), 0), [()])
        self.same((choice(NO_RULES, ("self",)), choice(ONE_RULE, ("self",))), (None, None))
        self.bad("number", needed_sets, NO_RULES, ("self",), 0)

    def test_the_list_is_new_each_time(self):
        self.check_new_list(needed_sets, SOME, ("self",), 2)
        self.check_new_list(needed_sets, SOME, ("self",), 0)


class EndsTest(RowsTest):

    def test_who_can_stand_first_and_last(self):
        for listed, wanted, rows in pool(141):
            first = tuple(sorted({row[0] for row in rows if row}))
            last = tuple(sorted({row[-1] for row in rows if row}))
            self.same(ends(listed, wanted), (first, last), (listed, wanted))

    def test_seven_rules(self):
        for listed, wanted, rows in goals_with_rows(142, 25, 7, 24):
            first = tuple(sorted({row[0] for row in rows if row}))
            last = tuple(sorted({row[-1] for row in rows if row}))
            self.same(ends(listed, wanted), (first, last), (listed, wanted))
        self.same(ends(SEVEN_FREE, ANY), (ascending(SEVEN_FREE), ascending(SEVEN_FREE)))
        self.same(ends(SEVEN_CHAINED, ("self",)), ((0,), (6,)))

    def test_few_rules(self):
        self.same(ends(NO_RULES, ("self",)), ((), ()))
        self.same(ends(ONE_RULE, ("self",)), ((0,), (0,)))
        self.same(ends(TWO, ("self",)), ((0,), (1,)))
        self.same(ends(TWO, ANY), ((0, 1), (0, 1)))
        self.same(ends(FORK, ("self",)), ((0, 1), (3,)))


class BetweenTest(RowsTest):

    def stand_between(self, rows, first, second):
        found = []
        for number in sorted(rows[0]):
            if all(sorted([row.index(number), row.index(first), row.index(second)])[1] == row.index(number) for row in rows):
                if number not in (first, second):
                    found.append(number)
        return tuple(found)

    def test_all_pairs(self):
        tried = 0
        for listed, wanted, rows in pool(143):
            for first, second in itertools.permutations(ascending(listed), 2):
                expected = self.stand_between(rows, first, second)
                tried += len(expected)
                self.same(between(listed, wanted, first, second), expected, (listed, wanted, first, second))
        self.assertGreater(tried, 20)

    def test_seven_rules(self):
        for listed, wanted, rows in goals_with_rows(144, 12, 7, 24):
            for first, second in itertools.permutations(ascending(listed), 2):
                expected = self.stand_between(rows, first, second)
                self.same(between(listed, wanted, first, second), expected, (listed, wanted, first, second))
        self.same(between(SEVEN_CHAINED, ("self",), 0, 6), (1, 2, 3, 4, 5))
        self.same(between(SEVEN_CHAINED, ("self",), 5, 2), (3, 4))
        self.same(between(SEVEN_CHAINED, ("self",), 5, 4), ())
        self.same(between(SEVEN_FREE, ANY, 0, 6), ())

    def test_if_there_is_one_the_same_one_stands_ahead(self):
        for listed, wanted, rows in pool(145):
            for first, second in itertools.permutations(ascending(listed), 2):
                if between(listed, wanted, first, second):
                    self.assertTrue(always(rows, first, second) or always(rows, second, first))
                if relation(listed, wanted, first, second) == "both":
                    self.same(between(listed, wanted, first, second), ())

    def test_few_rules(self):
        self.same((between(TWO, ("self",), 0, 1), between(TWO, ("self",), 1, 0)), ((), ()))
        self.same(between(FORK, ("self",), 0, 3), (2,))
        self.same(between(FORK, ("self",), 3, 1), (2,))
        self.same(between(FORK, ("self",), 0, 1), ())
        for number in (0, 1, -1, None):
            self.bad("first", between, NO_RULES, ("self",), number, 0)
            self.bad("second", between, ONE_RULE, ("self",), 0, number)


class ErrorsTest(RowsTest):

    def test_no_right_row(self):
        tried = 0
        goals = goals_without_rows(146, 200) + [(NO_RULES, AGAINST), (ONE_RULE, AGAINST), (TWO, AGAINST)]
        for listed, wanted in goals:
            for function in (always_before, choice, ends):
                self.not_possible("none", function, listed, wanted)
            for number in ascending(listed):
                self.not_possible("none", places, listed, wanted, number)
                self.not_possible("none", needed_sets, listed, wanted, number)
            for first, second in itertools.permutations(ascending(listed), 2):
                tried += 1
                self.not_possible("none", relation, listed, wanted, first, second)
                self.not_possible("none", between, listed, wanted, first, second)
        self.assertGreater(tried, 100)

    def test_a_loose_case_alone(self):
        for function in (always_before, choice, ends):
            self.not_possible("none", function, LOOSE_LIST, LOOSE)
        for function in (places, needed_sets):
            self.not_possible("none", function, LOOSE_LIST, LOOSE, 0)
        for function in (relation, between):
            self.not_possible("none", function, LOOSE_LIST, LOOSE, 0, 1)

    def test_wrong_arguments(self):
        # For the last of these no row is right: wrong arguments are told ahead of that.
        for wanted in SOME_WANTED + (("cases", (((0, 0), 5),)),):
            told = LISTED_ARGUMENT, ("wanted", wanted, NOT_WANTED)
            for function in (always_before, choice, ends):
                self.check_arguments(function, *told)
            for function in (places, needed_sets):
                self.check_arguments(function, *told, ("number", 2, NOT_NUMBERS))
            for function in (relation, between):
                for first in range(3):
                    seconds = ("second", 2 - first // 2, NOT_NUMBERS + (first,))
                    self.check_arguments(function, *told, ("first", first, NOT_NUMBERS), seconds)

    def test_twelve_pairs_and_thirteen(self):
        listed = ((8, 8), ((2, ((2, 2), (3, 3))), (1, ((0, 7), (0, 7)))), 0)
        twelve, thirteen = ("cases", WIDE_TWELVE), ("cases", WIDE_THIRTEEN)
        self.same(always_before(listed, twelve), [(1, 0)])
        self.same(relation(listed, twelve, 0, 1), "after")
        self.same(places(listed, twelve, 0), (1, 1))
        self.same(needed_sets(listed, twelve, 0), [(1,)])
        self.same(choice(listed, twelve), None)
        self.same(ends(listed, twelve), ((1,), (0,)))
        self.same(between(listed, twelve, 0, 1), ())
        for function in (always_before, choice, ends):
            self.bad("wanted", function, listed, thirteen)
        for function in (places, needed_sets):
            self.bad("wanted", function, listed, thirteen, 0)
        for function in (relation, between):
            self.bad("wanted", function, listed, thirteen, 0, 1)


class AllTest(RowsTest):

    def test_functions_are_defined_in_their_file(self):
        for name in ("always_before", "relation", "places", "needed_sets", "choice", "ends", "between"):
            self.assertEqual(getattr(before_file, name).__module__, "rulerows.before")

    def test_edge_lists(self):
        for listed in EDGE_LISTS + (WIDEST,):
            if len(listed[1]) < 7:
                for wanted in (("self",), ANY):
                    rows = right_rows(listed, wanted)
                    for first, second in itertools.permutations(ascending(listed), 2):
                        got = (first, second) in always_before(listed, wanted)
                        self.same(got, always(rows, first, second), (listed, wanted, first, second))

    def test_example_of_point_72(self):
        self.same(always_before(SOME, ("self",)), [])
        self.same(needed_sets(SOME, ("self",), 2), [(0,), (1,)])
        self.same([needed_sets(SOME, ("self",), number) for number in (0, 1)], [[()], [()]])
        self.same(choice(SOME, ("self",)), 2)

    def test_examples_of_the_interface(self):
        self.check_examples("""
>>> from rulerows.before import always_before, between, choice, ends, needed_sets, places, relation
>>> some = ((8,), ((1, ((0, 3),)), (1, ((2, 6),)), (2, ((2, 3),))), 0)
>>> always_before(some, ("self",)), places(some, ("self",), 2), needed_sets(some, ("self",), 2), choice(some, ("self",))
([], (1, 2), [(0,), (1,)], 2)
>>> ends(some, ("self",)), between(some, ("self",), 0, 2), relation(some, ("self",), 0, 2)
(((0, 1), (0, 1, 2)), (), 'both')
>>> two = ((4,), ((1, ((0, 2),)), (2, ((1, 3),))), 0)
>>> always_before(two, ("self",))
[(0, 1)]
""")


if __name__ == "__main__":
    unittest.main()
