"""wanted.py: points 7, 29 to 38."""

import random
import unittest

from rulerows import wanted as wanted_file
from rulerows.lists import decision, first_difference
from rulerows.made import other_case, put_in_row
from rulerows.wanted import (
    first_unmet, first_wrong, is_right, is_wanted, mean_the_same, regions, telling_row, tells, wanted_action,
)
from tests.support import (
    EDGE_LISTS, LISTED, NOT_CASES, NOT_LISTS, NOT_ROWS, NOT_WANTED, ODD_VALUES, SEVEN, SOME_WANTED, TWELVE, WIDE,
    WIDE_THIRTEEN, WIDE_TWELVE, WIDEST, RowsTest,
    all_cases, all_rows, ascending, deciding, deep, matching, random_list, random_wanted, right_rows, some_lists,
    some_wanted, unmet_cases, wanted_actions, wrong_cases,
)

EXAMPLE = ((8,), ((1, ((1, 5),)), (1, ((4, 7),)), (2, ((5, 5),))), 2)
FUNCTIONS = (
    "is_wanted", "wanted_action", "first_unmet", "first_wrong", "is_right", "regions", "mean_the_same",
    "telling_row", "tells",
)


def questions(seed, many, most_rules=4, most_cases=24):
    """A list with two things that are wanted of it."""
    rng = random.Random(seed)
    found = []
    for number in range(many):
        listed = random_list(rng, most_rules, most_cases)
        kinds = ("self", "row", "list", "some", "any")
        one = random_wanted(rng, listed, kinds[number % 5])
        other = random_wanted(rng, listed, kinds[number // 5 % 5])
        found.append((listed, one, other))
    return found


class IsWantedTest(RowsTest):

    def test_what_is_wanted(self):
        for value in SOME_WANTED + (("list", LISTED), ("cases", SEVEN), ("list", ((4, 3), (), 5))):
            self.same(is_wanted(LISTED, value), True, value)
        for listed in EDGE_LISTS + (WIDEST,):
            for value in (("self",), ("list", listed), ("cases", ()), ("list", (listed[0], (), 5))):
                self.same(is_wanted(listed, value), True, value)

    def test_what_is_not(self):
        for value in NOT_WANTED + ODD_VALUES:
            if value != ("self",):
                self.same(is_wanted(LISTED, value), False, value)

    def test_numbers_of_pairs(self):
        self.same(is_wanted(WIDE, ("cases", WIDE_TWELVE)), True)
        self.same(is_wanted(WIDE, ("cases", WIDE_THIRTEEN)), False)
        for many in range(14):
            self.same(is_wanted(WIDE, ("cases", WIDE_THIRTEEN[:many])), many <= 12, many)

    def test_each_action_and_case(self):
        for case in all_cases((4, 3)):
            for action in range(-1, 8):
                self.same(is_wanted(LISTED, ("cases", ((case, action),))), 0 <= action <= 5)

    def test_a_wrong_pair_in_each_place(self):
        for wrong in (((0, 0), 6), ((0, 8), 0), ((0, 0), True), [(0, 0), 0]):
            for place in range(12):
                pairs = WIDE_TWELVE[:place] + (wrong,) + WIDE_TWELVE[place + 1:]
                self.same(is_wanted(WIDE, ("cases", pairs)), False, pairs)

    def test_pairs_ascend_by_their_cases(self):
        for place in range(11):
            changed = list(WIDE_TWELVE)
            changed[place], changed[place + 1] = changed[place + 1], changed[place]
            self.same(is_wanted(WIDE, ("cases", tuple(changed))), False)
            changed = list(WIDE_TWELVE)
            changed[place + 1] = (changed[place][0], 5)
            self.same(is_wanted(WIDE, ("cases", tuple(changed))), False)
        # The actions have no say in the sequence.
        self.same(is_wanted(LISTED, ("cases", (((0, 0), 5), ((0, 1), 0)))), True)

    def test_the_other_list_has_the_same_widths(self):
        for widths in ((3,), (5,), (4, 1), (1, 4), (4, 4)):
            self.same(is_wanted(((4,), (), 0), ("list", (widths, (), 0))), False)
        self.same(is_wanted(((4,), (), 0), ("list", ((4,), (), 5))), True)

    def test_very_deep_values(self):
        down = deep()
        for value in (down, (down,), ("list", down), ("cases", down), ("cases", (down,)), (down, down), ("self", down)):
            self.assertTrue(is_wanted(LISTED, value) is False)
        for value in (("cases", ((down, 1),)), ("cases", (((0, 0), down),)), ("list", ((4, 3), (), down))):
            self.assertTrue(is_wanted(LISTED, value) is False)
        chain = ("self",)
        for _ in range(100000):
            chain = ("list", chain)
        self.assertTrue(is_wanted(LISTED, chain) is False)

    def test_wrong_arguments(self):
        for value in (("self",), None, ("cases", None)):
            self.check_arguments(is_wanted, ("listed", LISTED, NOT_LISTS), ("value", value, ()))


class WantedActionTest(RowsTest):

    def test_each_case(self):
        for listed, wanted in some_wanted(41, 150, 7):
            told = wanted_actions(listed, wanted)
            for case in all_cases(listed[0]):
                self.same(wanted_action(listed, wanted, case), told.get(case), (listed, wanted, case))

    def test_the_ascending_row_tells(self):
        other = put_in_row(EXAMPLE, (2, 0, 1))
        self.same([wanted_action(EXAMPLE, ("self",), (value,)) for value in (0, 1, 5, 7)], [2, 1, 1, 1])
        self.same([wanted_action(EXAMPLE, ("list", other), (value,)) for value in (0, 1, 5, 7)], [2, 1, 2, 1])
        self.same(wanted_action(EXAMPLE, ("list", ((8,), (), 4)), (5,)), 4)

    def test_cases_of_no_pair(self):
        wanted = ("cases", (((1,), 0), ((3,), 5)))
        self.same([wanted_action(EXAMPLE, wanted, (value,)) for value in range(5)], [None, 0, None, 5, None])
        self.same(wanted_action(EXAMPLE, ("cases", ()), (0,)), None)

    def test_wrong_arguments(self):
        listed, case = ("listed", LISTED, NOT_LISTS), ("case", (3, 2), NOT_CASES)
        for wanted in SOME_WANTED:
            self.check_arguments(wanted_action, listed, ("wanted", wanted, NOT_WANTED), case)


class FirstUnmetTest(RowsTest):

    def test_first_unmet(self):
        tried = 0
        for listed, wanted in some_wanted(42, 500, 7):
            unmet = unmet_cases(listed, wanted)
            tried += bool(unmet)
            self.same(first_unmet(listed, wanted), unmet[0] if unmet else None, (listed, wanted))
            if unmet:
                for row in all_rows(listed)[:24]:
                    self.same(is_right(listed, wanted, row), False)
        self.assertGreater(tried, 15)

    def test_the_first_of_several(self):
        listed = ((8,), ((1, ((2, 3),)),), 0)
        self.same(first_unmet(listed, ("cases", (((0,), 0), ((2,), 5), ((4,), 2), ((5,), 1), ((6,), 2)))), (4,))
        self.same(first_unmet(listed, ("cases", (((0,), 0), ((2,), 5), ((4,), 0)))), None)
        self.same(first_unmet(listed, ("list", ((8,), ((0, ((0, 4),)),), 3))), (5,))
        self.same(first_unmet(((8,), (), 0), ("list", ((8,), (), 1))), (0,))
        self.same(first_unmet(((8,), (), 0), ("list", ((8,), (), 0))), None)

    def test_with_self_no_case_is_unmet_and_the_ascending_row_is_right(self):
        for listed in EDGE_LISTS + (WIDEST,) + tuple(some_lists(43, 60)):
            self.same(first_unmet(listed, ("self",)), None)
            self.same(first_wrong(listed, ("self",), ascending(listed)), None)
            self.same(is_right(listed, ("self",), ascending(listed)), True)

    def test_wrong_arguments(self):
        listed = ("listed", LISTED, NOT_LISTS)
        for function in (first_unmet, regions):
            for wanted in SOME_WANTED:
                self.check_arguments(function, listed, ("wanted", wanted, NOT_WANTED))


class RightTest(RowsTest):

    def test_first_wrong_and_is_right(self):
        tried = {True: 0, False: 0}
        for listed, wanted in some_wanted(44, 150):
            for row in all_rows(listed):
                wrong = wrong_cases(listed, wanted, row)
                tried[not wrong] += 1
                self.same(first_wrong(listed, wanted, row), wrong[0] if wrong else None, (listed, wanted, row))
                self.same(is_right(listed, wanted, row), not wrong, (listed, wanted, row))
        self.assertGreater(min(tried.values()), 200)

    def test_seven_rules(self):
        for listed, wanted in some_wanted(45, 60, 7):
            for row in all_rows(listed)[::311]:
                wrong = wrong_cases(listed, wanted, row)
                self.same(first_wrong(listed, wanted, row), wrong[0] if wrong else None, (listed, wanted, row))

    def test_cases_without_a_rule_are_decided_by_the_rest(self):
        listed = ((4,), (), 3)
        self.same(first_wrong(listed, ("cases", (((0,), 3), ((2,), 1))), ()), (2,))
        self.same(is_right(listed, ("cases", (((0,), 3), ((2,), 3))), ()), True)
        self.same(is_right(listed, ("self",), ()), True)

    def test_no_pairs_and_each_row_is_right(self):
        for row in all_rows(LISTED):
            self.same(is_right(LISTED, ("cases", ()), row), True)
            self.same(first_wrong(LISTED, ("cases", ()), row), None)

    def test_pairs_left_out(self):
        for listed, wanted in some_wanted(46, 100):
            if wanted[0] == "cases":
                for row in all_rows(listed):
                    if is_right(listed, wanted, row):
                        self.same(is_right(listed, ("cases", wanted[1][::2]), row), True)
                        self.same(is_right(listed, ("cases", wanted[1][1:]), row), True)
                        self.same(is_right(listed, ("cases", ()), row), True)

    def test_the_rules_in_another_sequence(self):
        for listed, wanted in some_wanted(47, 60):
            if wanted[0] != "self":
                for renumbered in all_rows(listed)[::5]:
                    other = put_in_row(listed, renumbered)
                    for row in all_rows(listed)[::3]:
                        there = tuple([renumbered.index(number) for number in row])
                        self.same(first_wrong(other, wanted, there), first_wrong(listed, wanted, row))
                        self.same(is_right(other, wanted, there), is_right(listed, wanted, row))

    def test_a_row_is_right_if_each_rule_takes_what_wants_its_action(self):
        for listed, wanted in some_wanted(48, 60):
            told = wanted_actions(listed, wanted)
            for row in all_rows(listed):
                right = first_unmet(listed, wanted) is None
                for place, number in enumerate(row):
                    for case, action in told.items():
                        standing = matching(listed, case)
                        if number in standing and not set(standing) & set(row[:place]):
                            right = right and action == listed[1][number][0]
                self.same(is_right(listed, wanted, row), right)

    def test_wrong_arguments(self):
        listed, row = ("listed", LISTED, NOT_LISTS), ("row", (2, 0, 1), NOT_ROWS)
        for function in (first_wrong, is_right):
            for wanted in SOME_WANTED:
                self.check_arguments(function, listed, ("wanted", wanted, NOT_WANTED), row)
            for wrong in ((0,), [], None):
                self.bad("row", function, ((4,), (), 0), ("self",), wrong)


class RegionsTest(RowsTest):

    def test_regions(self):
        for listed, wanted in some_wanted(49, 200, 7) + [(WIDEST, ("self",)), (WIDEST, ("list", WIDEST))]:
            expected, seen = [], []
            for case, action in wanted_actions(listed, wanted).items():
                if (matching(listed, case), action) not in seen:
                    seen.append((matching(listed, case), action))
                    expected.append((case, matching(listed, case), action))
            self.same(regions(listed, wanted), expected, (listed, wanted))

    def test_one_matching_set_with_several_actions(self):
        wanted = ("cases", (((1,), 4), ((2,), 1), ((3,), 4), ((4,), 1), ((6,), 1), ((7,), 1)))
        expected = [((1,), (0,), 4), ((2,), (0,), 1), ((4,), (0, 1), 1), ((6,), (1,), 1)]
        self.same(regions(EXAMPLE, wanted), expected)

    def test_nothing_wanted(self):
        self.same(regions(EXAMPLE, ("cases", ())), [])
        self.same(regions(((8,), (), 0), ("self",)), [((0,), (), 0)])

    def test_a_row_decides_all_cases_of_a_region_alike(self):
        for listed, wanted in some_wanted(50, 60):
            for row in all_rows(listed)[::3]:
                wrong = []
                for first, standing, action in regions(listed, wanted):
                    if decision(listed, row, first) != action:
                        wrong.append(first)
                self.same(min(wrong, default=None), first_wrong(listed, wanted, row))

    def test_the_list_is_new_each_time(self):
        for wanted in (("self",), ("cases", (((1,), 1), ((5,), 2)))):
            first = regions(EXAMPLE, wanted)
            kept = list(first)
            first.clear()
            self.same(regions(EXAMPLE, wanted), kept)
            self.assertIsNot(regions(EXAMPLE, wanted), regions(EXAMPLE, wanted))


class MeaningTest(RowsTest):

    def check_meaning(self, listed, one, other):
        mine, its = right_rows(listed, one), right_rows(listed, other)
        telling = sorted(set(mine) ^ set(its))
        told = (listed, one, other)
        self.same(telling_row(listed, one, other), telling[0] if telling else None, told)
        self.same(telling_row(listed, other, one), telling[0] if telling else None, told)
        self.same(mean_the_same(listed, one, other), not telling, told)
        self.same(mean_the_same(listed, other, one), not telling, told)
        for row in all_rows(listed)[:30]:
            self.same(tells(listed, one, other, row), row in telling, told)
        return not telling

    def test_few_rules(self):
        tried = {True: 0, False: 0}
        for listed, one, other in questions(51, 400):
            tried[self.check_meaning(listed, one, other)] += 1
        self.assertGreater(min(tried.values()), 50)

    def test_seven_rules(self):
        rng = random.Random(52)
        rules = tuple([(number % 3, ((number, min(7, number + 2)),)) for number in range(7)])
        chain = ((8,), rules, 0)
        self.check_meaning(chain, ("self",), ("list", put_in_row(chain, (1, 0, 2, 3, 4, 6, 5))))
        self.check_meaning(chain, ("self",), ("cases", (((2,), 0), ((6,), 1))))
        same_action = ((8,), tuple([(1, ((0, number),)) for number in range(7)]), 0)
        self.check_meaning(same_action, ("self",), ("cases", ()))
        self.check_meaning(same_action, ("self",), ("cases", (((7,), 1),)))
        # The two differ only in what the last two rules of most rows may do.
        late = ((8,), tuple([(1, ((0, 7),)) for _ in range(5)]) + ((1, ((6, 6),)), (2, ((6, 7),))), 0)
        self.check_meaning(late, ("cases", ()), ("cases", (((6,), 1),)))
        for _ in range(3):
            listed = random_list(rng, 7, 12)
            self.check_meaning(listed, random_wanted(rng, listed, "some"), random_wanted(rng, listed, "some"))

    def test_no_row_is_right_for_either(self):
        listed = ((4,), ((1, ((0, 1),)), (2, ((1, 2),))), 0)
        unmet, against = ("cases", (((3,), 5),)), ("cases", (((0,), 3),))
        self.same(self.check_meaning(listed, unmet, against), True)
        self.same(self.check_meaning(listed, unmet, unmet), True)
        self.same(self.check_meaning(listed, against, ("self",)), False)
        self.same(telling_row(listed, unmet, ("cases", ())), (0, 1))
        self.same(telling_row(listed, ("cases", (((1,), 2),)), against), (1, 0))

    def test_no_rules(self):
        empty = ((4,), (), 2)
        self.same(self.check_meaning(empty, ("self",), ("cases", ())), True)
        self.same(self.check_meaning(empty, ("self",), ("list", ((4,), (), 1))), False)
        self.same(telling_row(empty, ("self",), ("cases", (((3,), 1),))), ())
        self.same(tells(empty, ("self",), ("cases", (((3,), 1),)), ()), True)
        self.same(tells(empty, ("self",), ("cases", (((3,), 1),)), (0,)), False)

    def test_self_and_the_list_itself(self):
        for listed in EDGE_LISTS + (WIDEST,) + tuple(some_lists(53, 40)):
            self.same(mean_the_same(listed, ("self",), ("list", listed)), True)
            self.same(telling_row(listed, ("list", listed), ("self",)), None)
            self.same(tells(listed, ("self",), ("list", listed), ascending(listed)), False)

    def test_other_lists_that_decide_alike(self):
        for listed in some_lists(54, 30, most_rules=4, most_cases=20):
            for row in all_rows(listed):
                other = put_in_row(listed, row)
                if other_case(listed, other) is None:
                    self.same(mean_the_same(listed, ("self",), ("list", other)), True)
                else:
                    self.same(is_right(listed, ("self",), row), False)
                self.same(is_right(listed, ("list", other), row), True)
                self.same(is_right(listed, ("self",), row), first_difference(listed, ascending(listed), row) is None)

    def test_other_values_tell_nothing(self):
        one, other = ("self",), ("cases", (((3,), 1),))
        self.same(tells(EXAMPLE, one, other, (2, 1, 0)), True)
        for value in ODD_VALUES + NOT_ROWS + ([2, 1, 0], (2, True, False), (2, True, 0), (2, 1, 0, 0), (2, 1), "210"):
            self.same(tells(EXAMPLE, one, other, value), False, value)
        down = deep()
        for value in (down, (down, 1, 0), (2, 1, down), [down]):
            self.assertTrue(tells(EXAMPLE, one, other, value) is False)

    def test_wrong_arguments(self):
        listed = ("listed", LISTED, NOT_LISTS)
        for one, other in zip(SOME_WANTED, SOME_WANTED[1:] + SOME_WANTED[:1]):
            told = (listed, ("one", one, NOT_WANTED), ("other", other, NOT_WANTED))
            self.check_arguments(mean_the_same, *told)
            self.check_arguments(telling_row, *told)
            for value in ((2, 0, 1), None, ["row"]):
                self.check_arguments(tells, *told, ("value", value, ()))


class AllTest(RowsTest):

    def test_functions_are_defined_in_their_file(self):
        for name in FUNCTIONS:
            self.assertEqual(getattr(wanted_file, name).__module__, "rulerows.wanted")

    def test_twelve_pairs_and_thirteen(self):
        twelve, thirteen, one = ("cases", WIDE_TWELVE), ("cases", WIDE_THIRTEEN), ("self",)
        self.same(wanted_action(WIDE, twelve, (2, 3)), 1)
        self.same(first_unmet(WIDE, twelve), (1, 0))
        self.same(first_wrong(WIDE, twelve, ()), (1, 0))
        self.same(len(regions(WIDE, twelve)), 1)
        self.same(telling_row(WIDE, twelve, one), ())
        self.same(mean_the_same(WIDE, one, twelve), False)
        self.bad("wanted", wanted_action, WIDE, thirteen, (0, 0))
        self.bad("wanted", first_wrong, WIDE, thirteen, ())
        self.bad("wanted", is_right, WIDE, thirteen, ())
        for function in (first_unmet, regions):
            self.bad("wanted", function, WIDE, thirteen)
        for function in (telling_row, mean_the_same):
            self.bad("one", function, WIDE, thirteen, twelve)
            self.bad("other", function, WIDE, twelve, thirteen)
        self.bad("one", tells, WIDE, thirteen, twelve, ())
        self.bad("other", tells, WIDE, twelve, thirteen, ())

    def test_each_case_is_wanted(self):
        wanted = ("cases", TWELVE)
        self.same(is_wanted(LISTED, wanted), True)
        told = [wanted_action(LISTED, wanted, case) for case in all_cases((4, 3))]
        self.same(told, [number % 6 for number in range(12)])
        self.same(first_wrong(LISTED, wanted, (0, 1, 2)), wrong_cases(LISTED, wanted, (0, 1, 2))[0])

    def test_example_of_point_38(self):
        self.same(deciding(EXAMPLE, (0, 1, 2), (5,))[1], 1)
        self.same(decision(EXAMPLE, (0, 1, 2), (5,)), 1)
        self.same(decision(EXAMPLE, (2, 0, 1), (5,)), 2)
        self.same(first_wrong(EXAMPLE, ("self",), (2, 0, 1)), (5,))

    def test_examples_of_the_interface(self):
        self.check_examples("""
>>> from rulerows.wanted import first_unmet, first_wrong, is_right, mean_the_same, regions, telling_row, tells, wanted_action
>>> listed = ((8,), ((1, ((1, 5),)), (1, ((4, 7),)), (2, ((5, 5),))), 2)
>>> first_wrong(listed, ("self",), (2, 0, 1)), is_right(listed, ("self",), (1, 0, 2)), wanted_action(listed, ("self",), (0,))
((5,), True, 2)
>>> regions(listed, ("self",))[:3]
[((0,), (), 2), ((1,), (0,), 1), ((4,), (0, 1), 1)]
>>> regions(listed, ("self",))[3:]
[((5,), (0, 1, 2), 1), ((6,), (1,), 1)]
>>> mean_the_same(listed, ("self",), ("cases", (((5,), 1),))), telling_row(listed, ("self",), ("cases", (((3,), 1),)))
(True, (2, 0, 1))
>>> tells(listed, ("self",), ("cases", (((3,), 1),)), (2, 1, 0)), first_unmet(listed, ("cases", (((0,), 1), ((5,), 2))))
(True, (0,))
""")


if __name__ == "__main__":
    unittest.main()
