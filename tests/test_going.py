"""going.py: points 94 to 104, and point 13 as far as it speaks of idle rules."""

import itertools
import random
import unittest

from rulerows import going as going_file
from rulerows.going import (
    can_go, first_case_against, hides, idle, is_against, merged, needing_case, own_case, shortest_row, shown_case,
    smallest_hiding, smallest_set,
)
from rulerows.made import other_case, without
from tests.support import (
    EDGE_LISTS, LISTED, NOT_BEGINNINGS, NOT_CASES, NOT_LISTS, NOT_NUMBERS, NOT_SETS, NO_RULES, ODD_VALUES, ONE_RULE,
    SEVEN_CHAINED, SEVEN_FREE, WIDEST, RowsTest,
    all_cases, all_sets, ascending, deciding, deep, fitting, matching, random_rule, some_lists,
)

LISTED_ARGUMENT = ("listed", LISTED, NOT_LISTS)
GOING = (
    (8,), ((1, ((1, 4),)), (1, ((6, 7),)), (2, ((1, 7),)), (1, ((1, 7),)), (2, ((5, 5),))), 0,
)


def all_short_rows(listed, most=7):
    numbers = ascending(listed)
    return [row for many in range(min(len(numbers), most) + 1) for row in itertools.permutations(numbers, many)]


def cases_against(listed, short):
    row = ascending(listed)
    return [case for case in all_cases(listed[0]) if deciding(listed, short, case)[1] != deciding(listed, row, case)[1]]


def first_of(found):
    return found[0] if found else None


def own_cases(listed, number):
    return [case for case in all_cases(listed[0]) if deciding(listed, ascending(listed), case)[0] == number]


def crowded_lists(seed, many, rules=5, actions=2):
    """Lists with one field, in which rules stand in each other's way."""
    rng = random.Random(seed)
    found = []
    for _ in range(many):
        widths = (rng.choice((3, 4, 6, 8)),)
        told = tuple([random_rule(rng, widths, actions) for _ in range(rng.randint(2, rules))])
        found.append((widths, told, rng.randrange(actions)))
    return found


def holed_lists(seed, many):
    """Lists like that of point 104: the pieces around a hole, what fills it, and behind them the whole and the hole."""
    rng = random.Random(seed)
    found = []
    for _ in range(many):
        low, first, last, high = sorted(rng.sample(range(8), 4))
        pieces = [(1, ((low, first - 1),)), (1, ((last + 1, high),))]
        behind = [(1, ((low, high),)), (2, ((first, last),))]
        rng.shuffle(pieces)
        rng.shuffle(behind)
        rules = pieces + [(2, ((low, high),))] + behind
        if rng.random() < 0.3:
            rules.insert(rng.randint(0, 5), random_rule(rng, (8,), 3))
        found.append(((8,), tuple(rules), rng.choice((0, 0, 0, 1, 2))))
    return found


class AgainstTest(RowsTest):

    def test_each_short_row_and_each_case(self):
        tried = {True: 0, False: 0}
        for listed in EDGE_LISTS[:4] + tuple(some_lists(351, 30, 3, 24)) + (NO_RULES, ONE_RULE):
            for short in all_short_rows(listed):
                against = cases_against(listed, short)
                tried[against == []] += 1
                self.same(first_case_against(listed, short), first_of(against), (listed, short))
                for case in all_cases(listed[0]):
                    self.same(is_against(listed, short, case), case in against, (listed, short, case))
        self.assertGreater(min(tried.values()), 50)

    def test_longer_lists(self):
        rng = random.Random(352)
        for listed in EDGE_LISTS + (WIDEST,) + tuple(some_lists(353, 60)):
            numbers = ascending(listed)
            for _ in range(4):
                short = tuple(rng.sample(numbers, rng.randint(0, len(numbers))))
                against = cases_against(listed, short)
                self.same(first_case_against(listed, short), first_of(against), (listed, short))
                case = rng.choice(all_cases(listed[0]))
                self.same(is_against(listed, short, case), case in against)

    def test_from_no_rules_to_all(self):
        self.same(first_case_against(GOING, ()), (1,))
        self.same(first_case_against(GOING, (3,)), (5,))
        self.same(first_case_against(GOING, (2, 0, 1)), (1,))
        self.same(first_case_against(GOING, (0, 1, 2)), None)
        self.same(first_case_against(GOING, (0, 1, 2, 3, 4)), None)
        self.same(first_case_against(GOING, (4, 3, 2, 1, 0)), None)
        self.same(first_case_against(GOING, (3, 4, 2, 1, 0)), (5,))
        self.same(first_case_against(NO_RULES, ()), None)
        self.same(first_case_against(((8,), ((0, ((2, 5),)),), 0), ()), None)
        self.same(first_case_against(((8,), ((1, ((2, 5),)),), 0), ()), (2,))
        self.same(is_against(NO_RULES, (), (0,)), False)

    def test_values_of_other_kinds(self):
        listed = ((4, 3), ((1, ((0, 3), (0, 2))), (2, ((1, 3), (1, 2))), (1, ((2, 2), (0, 1)))), 0)
        for value in all_cases((4, 3)):
            self.same(is_against(listed, (), value), True)
        for value in ODD_VALUES + NOT_CASES:
            if value != (3, 3):
                self.same(is_against(listed, (), value), False, value)
        one_field = ((8,), ((1, ((0, 7),)),), 0)
        for value in ODD_VALUES + ((True,), (False,), [0], (8,), (-1,), (None,), ("0",), (0, 0)):
            self.same(is_against(one_field, (), value), False, value)
        self.same(is_against(one_field, (), (0,)), True)
        self.same(is_against(one_field, (), (1,)), True)

    def test_very_deep_values(self):
        down = deep()
        for value in (down, (down, 0), (0, down), [down]):
            self.assertTrue(is_against(LISTED, (), value) is False)
            self.assertTrue(is_against(ONE_RULE, (), value) is False)

    def test_wrong_arguments(self):
        for short in ((), (2, 0), (1,), (2, 1, 0)):
            self.check_arguments(first_case_against, LISTED_ARGUMENT, ("short", short, NOT_BEGINNINGS))
            for value in ((0, 0), None):
                self.check_arguments(
                    is_against, LISTED_ARGUMENT, ("short", short, NOT_BEGINNINGS), ("value", value, ()))


class IdleTest(RowsTest):

    def test_each_list(self):
        tried = {True: 0, False: 0}
        for listed in EDGE_LISTS + (WIDEST, NO_RULES, ONE_RULE) + tuple(some_lists(354, 80) + crowded_lists(355, 80, 7)):
            firsts = [first_of(own_cases(listed, number)) for number in ascending(listed)]
            self.same(idle(listed), tuple([number for number, case in enumerate(firsts) if case is None]), listed)
            for number, case in enumerate(firsts):
                tried[case is None] += 1
                self.same(own_case(listed, number), case, (listed, number))
        self.assertGreater(min(tried.values()), 100)

    def test_rules_that_can_go(self):
        tried = {True: 0, False: 0}
        lists = EDGE_LISTS + (WIDEST, NO_RULES, ONE_RULE) + tuple(some_lists(356, 60) + crowded_lists(357, 80, 7))
        for listed in lists:
            going = []
            for number in ascending(listed):
                others = tuple([other for other in ascending(listed) if other != number])
                case = first_of(cases_against(listed, others))
                tried[case is None] += 1
                if case is None:
                    going.append(number)
                    self.same(other_case(listed, without(listed, number)), None)
                self.same(needing_case(listed, number), case, (listed, number))
            self.same(can_go(listed), tuple(going), listed)
            for number in idle(listed):
                self.assertIn(number, can_go(listed))
        self.assertGreater(min(tried.values()), 100)

    def test_rules_that_can_go_but_not_together(self):
        listed = ((4,), ((1, ((0, 2),)), (1, ((0, 2),))), 0)
        self.same(can_go(listed), (0, 1))
        self.same(idle(listed), (1,))
        self.same(first_case_against(listed, ()), (0,))
        self.same(own_case(listed, 1), None)
        self.same(needing_case(listed, 0), None)

    def test_a_rule_can_go_though_it_decides_cases(self):
        listed = ((4,), ((1, ((0, 1),)), (1, ((0, 3),))), 0)
        self.same(idle(listed), ())
        self.same(can_go(listed), (0,))
        self.same(own_case(listed, 0), (0,))
        self.same(own_case(listed, 1), (2,))
        self.same(needing_case(listed, 1), (2,))

    def test_the_last_rule_with_the_action_of_the_rest_can_go(self):
        tried = 0
        for listed in some_lists(358, 200) + crowded_lists(359, 60):
            if listed[1] and listed[1][-1][0] == listed[2]:
                tried += 1
                last = len(listed[1]) - 1
                self.assertIn(last, can_go(listed))
                self.same(needing_case(listed, last), None)
        self.assertGreater(tried, 50)
        self.same(can_go(((4,), ((2, ((0, 3),)),), 2)), (0,))
        self.same(can_go(((4,), ((2, ((0, 3),)),), 1)), ())

    def test_wrong_arguments(self):
        self.check_arguments(idle, LISTED_ARGUMENT)
        self.check_arguments(can_go, LISTED_ARGUMENT)
        for number in (0, 1, 2):
            self.check_arguments(own_case, LISTED_ARGUMENT, ("number", number, NOT_NUMBERS))
            self.check_arguments(needing_case, LISTED_ARGUMENT, ("number", number, NOT_NUMBERS))
        for function in (own_case, needing_case):
            self.bad("number", function, NO_RULES, 0)
            self.bad("number", function, ONE_RULE, 1)


class FewestTest(RowsTest):

    def check_fewest(self, listed):
        sets = [chosen for chosen in all_sets(listed) if not cases_against(listed, chosen)]
        self.same(smallest_set(listed), sets[0], listed)
        rows = [row for row in all_short_rows(listed, len(sets[0])) if not cases_against(listed, row)]
        self.same(shortest_row(listed), rows[0], listed)
        return len(rows[0]), len(sets[0])

    def test_each_list(self):
        tried = {True: 0, False: 0}
        lists = EDGE_LISTS[:4] + (NO_RULES, ONE_RULE, LISTED, GOING)
        for listed in lists + tuple(some_lists(360, 60, 4, 24) + crowded_lists(361, 100) + holed_lists(369, 40)):
            row, chosen = self.check_fewest(listed)
            tried[row < chosen] += 1
        self.assertGreater(tried[False], 100)
        self.assertGreater(tried[True], 5)

    def test_rows_that_do_not_ascend(self):
        tried = 0
        for listed in holed_lists(362, 80):
            row = shortest_row(listed)
            if row != tuple(sorted(row)):
                tried += 1
                self.check_fewest(listed)
        self.assertGreater(tried, 5)

    def test_no_rule_of_the_shortest_row_can_be_left_out(self):
        for listed in EDGE_LISTS + (WIDEST, SEVEN_CHAINED) + tuple(some_lists(363, 60)):
            row = shortest_row(listed)
            self.same(cases_against(listed, row), [])
            self.assertLessEqual(len(row), len(smallest_set(listed)))
            for place in range(len(row)):
                self.assertNotEqual(cases_against(listed, row[:place] + row[place + 1:]), [])

    def test_seven_rules(self):
        self.same(smallest_set(SEVEN_FREE), (1, 2, 4, 5))
        self.same(shortest_row(SEVEN_FREE), (1, 2, 4, 5))
        self.same(smallest_set(SEVEN_CHAINED), (0, 1, 2, 3, 4, 5, 6))
        self.same(shortest_row(SEVEN_CHAINED), (0, 1, 2, 3, 4, 5, 6))
        # Seven times the same rule.
        self.same(smallest_set(((8,), ((1, ((0, 7),)),) * 7, 0)), (0,))
        self.same(shortest_row(((8,), ((1, ((0, 7),)),) * 7, 0)), (0,))
        self.same(smallest_set(((8,), ((1, ((0, 7),)),) * 7, 1)), ())
        self.same(shortest_row(((8,), ((1, ((0, 7),)),) * 7, 1)), ())

    def test_a_row_of_few_rules_stands_before_a_lesser_one_with_more(self):
        # Rules 0 and 1 together match what rule 2 matches alone.
        listed = ((8,), ((1, ((0, 3),)), (1, ((4, 7),)), (1, ((0, 7),))), 0)
        self.same(smallest_set(listed), (2,))
        self.same(shortest_row(listed), (2,))

    def test_the_first_of_several_of_the_same_size(self):
        listed = ((8,), ((2, ((0, 3),)), (2, ((0, 3),)), (1, ((6, 7),)), (1, ((6, 7),))), 0)
        self.same(smallest_set(listed), (0, 2))
        self.same(shortest_row(listed), (0, 2))
        # The sets (2, 4) and (3, 4) do: the row of the lesser one is 4, 2, and that of the other one 3, 4.
        halves = [(2, ((4, 5),)), (2, ((6, 7),)), (1, ((0, 7),)), (1, ((0, 3),)), (2, ((4, 7),))]
        self.same(first_case_against(((8,), tuple(halves), 0), (4, 2)), None)
        self.same(shortest_row(((8,), tuple(halves), 0)), (3, 4))
        self.check_fewest(((8,), tuple(halves), 0))
        # Rule 3 has to stand behind rule 4, or behind rules 0 and 1; the lesser set is (2, 3).
        listed = ((8,), ((1, ((0, 0),)), (1, ((7, 7),)), (2, ((0, 7),)), (1, ((0, 7),)), (2, ((1, 6),))), 0)
        self.same(smallest_set(listed), (0, 1, 2))
        self.same(shortest_row(listed), (4, 3))

    def test_wrong_arguments(self):
        self.check_arguments(smallest_set, LISTED_ARGUMENT)
        self.check_arguments(shortest_row, LISTED_ARGUMENT)


class HidingTest(RowsTest):

    def test_each_set_ahead(self):
        tried = {True: 0, False: 0}
        for listed in EDGE_LISTS[:4] + tuple(some_lists(364, 40, 5) + crowded_lists(365, 60)):
            for number in ascending(listed):
                hiding = []
                for chosen in all_sets(listed):
                    if set(chosen) <= set(range(number)):
                        shown = first_of(fitting(listed, (number,), chosen))
                        tried[shown is None] += 1
                        self.same(shown_case(listed, number, chosen), shown, (listed, number, chosen))
                        self.same(hides(listed, number, chosen), shown is None, (listed, number, chosen))
                        if shown is None:
                            hiding.append(chosen)
                self.same(smallest_hiding(listed, number), first_of(hiding), (listed, number))
                self.same(number in idle(listed), hiding != [])
                self.same(hides(listed, number, tuple(range(number))), hiding != [])
        self.assertGreater(min(tried.values()), 100)

    def test_seven_rules(self):
        rng = random.Random(366)
        for listed in crowded_lists(367, 60, 7):
            number = len(listed[1]) - 1
            sets = [chosen for chosen in all_sets(listed) if set(chosen) <= set(range(number))]
            hiding = [chosen for chosen in sets if not fitting(listed, (number,), chosen)]
            self.same(smallest_hiding(listed, number), first_of(hiding))
            chosen = rng.choice(sets)
            self.same(shown_case(listed, number, chosen), first_of(fitting(listed, (number,), chosen)))

    def test_sets_that_hide_and_sets_that_do_not(self):
        self.same(hides(GOING, 4, (2,)), True)
        self.same(hides(GOING, 4, (0, 1)), False)
        self.same(shown_case(GOING, 4, (0, 1)), (5,))
        self.same(shown_case(GOING, 4, (0, 1, 2, 3)), None)
        self.same(shown_case(GOING, 4, ()), (5,))
        self.same(hides(GOING, 0, ()), False)
        self.same(shown_case(GOING, 0, ()), (1,))
        self.same(smallest_hiding(GOING, 0), None)
        self.same(smallest_hiding(GOING, 2), None)
        self.same(smallest_hiding(GOING, 3), (2,))

    def test_the_smallest_hiding_set_has_the_fewest_rules(self):
        listed = ((8,), ((1, ((0, 3),)), (2, ((4, 7),)), (3, ((2, 5),)), (4, ((2, 5),))), 0)
        self.same(smallest_hiding(listed, 2), (0, 1))
        self.same(smallest_hiding(listed, 3), (2,))
        twice = ((8,), ((1, ((0, 3),)), (1, ((0, 3),)), (2, ((4, 7),)), (2, ((4, 7),)), (3, ((2, 5),))), 0)
        self.same(smallest_hiding(twice, 4), (0, 2))
        # Rule 0 hides nothing of what is left; a set may begin with a greater number.
        later = ((8,), ((1, ((7, 7),)), (1, ((0, 3),)), (2, ((4, 7),)), (3, ((2, 5),))), 0)
        self.same(smallest_hiding(later, 3), (1, 2))

    def test_only_rules_ahead_of_the_rule(self):
        for function in (hides, shown_case):
            for chosen in ((4,), (0, 4), (3, 4), (0, 1, 2, 3, 4), (5,)):
                self.bad("chosen", function, GOING, 4, chosen)
            for chosen in ((2,), (0, 2), (3,), (1, 4)):
                self.bad("chosen", function, GOING, 2, chosen)
            self.bad("chosen", function, GOING, 0, (0,))
            self.bad("chosen", function, GOING, 0, (1,))

    def test_wrong_arguments(self):
        for number, chosen in ((2, (0, 1)), (2, ()), (1, (0,)), (0, ())):
            wrong_sets = NOT_SETS + tuple([(other,) for other in range(number, 3)]) + ((0, 1, 2), (1, 2), (0, 2))
            for function in (hides, shown_case):
                self.check_arguments(
                    function, LISTED_ARGUMENT, ("number", number, NOT_NUMBERS), ("chosen", chosen, wrong_sets))
            self.check_arguments(smallest_hiding, LISTED_ARGUMENT, ("number", number, NOT_NUMBERS))
        self.bad("number", smallest_hiding, NO_RULES, 0)
        self.bad("number", hides, NO_RULES, 0, ())

    def test_very_deep_values(self):
        down = deep()
        for chosen in (down, (down,), (0, down)):
            self.bad("chosen", hides, LISTED, 2, chosen)
            self.bad("chosen", shown_case, LISTED, 2, chosen)
            self.bad("short", first_case_against, LISTED, chosen)


def all_boxes(widths):
    fields = [[(low, high) for low in range(width) for high in range(low, width)] for width in widths]
    return list(itertools.product(*fields))


def cases_in(widths, box):
    return [case for case in all_cases(widths) if matching((widths, ((0, box),), 0), case)]


def merging(listed, number):
    """The merged rule by the words of point 99: each rule there is is tried."""
    widths, rules, _ = listed
    one, other = rules[number], rules[number + 1]
    both = sorted(set(cases_in(widths, one[1])) | set(cases_in(widths, other[1])))
    boxes = [box for box in all_boxes(widths) if cases_in(widths, box) == both]
    if one[0] != other[0] or not boxes:
        return None
    assert len(boxes) == 1
    return (one[0], boxes[0])


def by_point_100(one, other):
    """Whether two rules can be merged, by point 100."""
    if one[0] != other[0]:
        return False
    pairs = list(zip(one[1], other[1]))
    if all([mine[0] <= its[0] and its[1] <= mine[1] for mine, its in pairs]):
        return True
    if all([its[0] <= mine[0] and mine[1] <= its[1] for mine, its in pairs]):
        return True
    different = [(mine, its) for mine, its in pairs if mine != its]
    if len(different) > 1:
        return False
    (first_low, first_high), (second_low, second_high) = different[0]
    return second_low <= first_high + 1 and first_low <= second_high + 1


class MergedTest(RowsTest):

    def test_each_two_rules_of_small_widths(self):
        tried = {True: 0, False: 0}
        for widths in ((5,), (3, 2), (2, 2, 2)):
            boxes = all_boxes(widths)
            for one, other in itertools.product(boxes, boxes):
                listed = (widths, ((1, one), (1, other)), 0)
                expected = merging(listed, 0)
                tried[expected is None] += 1
                self.same(merged(listed, 0), expected, listed)
                self.same(expected is not None, by_point_100(*listed[1]), listed)
                self.same(merged((widths, ((1, one), (2, other)), 1), 0), None)
        self.assertGreater(min(tried.values()), 300)

    def test_rules_of_longer_lists(self):
        tried = 0
        rng = random.Random(368)
        for _ in range(400):
            widths = rng.choice(((8,), (8, 8), (4, 8, 3), (2, 2, 8), (1, 8, 1)))
            rules = tuple([random_rule(rng, widths, 2) for _ in range(7)])
            if rng.random() < 0.5:
                # Two neighbours that differ in one field.
                box = rules[3][1]
                field = rng.randrange(len(widths))
                rules = rules[:4] + ((rules[3][0], box[:field] + rules[5][1][field:field + 1] + box[field + 1:]),) + rules[5:]
            listed = (widths, rules, 0)
            for number in range(6):
                found = merged(listed, number)
                self.same(found is not None, by_point_100(rules[number], rules[number + 1]), (listed, number))
                if found is not None:
                    tried += 1
                    both = set(cases_in(widths, rules[number][1])) | set(cases_in(widths, rules[number + 1][1]))
                    self.same(sorted(both), cases_in(widths, found[1]))
                    self.same(found[0], rules[number][0])
                    less = (widths, rules[:number] + (found,) + rules[number + 2:], 0)
                    self.same(other_case(listed, less), None)
        self.assertGreater(tried, 100)

    def test_side_by_side_with_a_gap_and_with_a_common_part(self):
        def two(one, other):
            return ((8,), ((1, (one,)), (1, (other,))), 0)
        self.same(merged(two((1, 3), (4, 7)), 0), (1, ((1, 7),)))
        self.same(merged(two((4, 7), (1, 3)), 0), (1, ((1, 7),)))
        self.same(merged(two((1, 3), (5, 7)), 0), None)
        self.same(merged(two((5, 7), (1, 3)), 0), None)
        self.same(merged(two((1, 5), (3, 7)), 0), (1, ((1, 7),)))
        self.same(merged(two((2, 3), (0, 7)), 0), (1, ((0, 7),)))
        self.same(merged(two((0, 7), (2, 3)), 0), (1, ((0, 7),)))
        self.same(merged(two((2, 3), (2, 3)), 0), (1, ((2, 3),)))
        self.same(merged(((8,), ((1, ((1, 3),)), (2, ((4, 7),))), 0), 0), None)
        self.same(merged(((8,), ((1, ((1, 3),)), (2, ((1, 3),))), 0), 0), None)
        self.same(merged(((8, 8), ((0, ((1, 3), (2, 2))), (0, ((4, 7), (2, 2)))), 0), 0), (0, ((1, 7), (2, 2))))
        self.same(merged(((8, 8), ((0, ((1, 3), (2, 2))), (0, ((4, 7), (2, 3)))), 0), 0), None)
        self.same(merged(((8, 8), ((0, ((1, 3), (0, 3))), (0, ((1, 3), (4, 5)))), 0), 0), (0, ((1, 3), (0, 5))))

    def test_number_is_not_that_of_the_last_rule(self):
        for number in (0, 1):
            self.check_arguments(merged, LISTED_ARGUMENT, ("number", number, NOT_NUMBERS + (2,)))
        self.bad("number", merged, NO_RULES, 0)
        self.bad("number", merged, NO_RULES, -1)
        self.bad("number", merged, ONE_RULE, 0)
        self.bad("number", merged, SEVEN_FREE, 6)
        self.same(merged(SEVEN_FREE, 5), None)
        self.same(merged(((8,), ((1, ((0, 7),)),) * 7, 0), 5), (1, ((0, 7),)))


class AllTest(RowsTest):

    def test_functions_are_defined_in_their_file(self):
        for name in ("first_case_against", "is_against", "idle", "own_case", "can_go", "needing_case", "smallest_set",
                     "shortest_row", "hides", "shown_case", "smallest_hiding", "merged"):
            self.assertEqual(getattr(going_file, name).__module__, "rulerows.going")

    def test_example_of_point_104(self):
        self.same(smallest_set(GOING), (0, 1, 2))
        self.same(first_case_against(GOING, (4, 3)), None)
        self.same(shortest_row(GOING), (4, 3))

    def test_examples_of_the_interface(self):
        self.check_examples("""
>>> from rulerows.going import can_go, first_case_against, hides, idle, is_against, merged, needing_case, own_case
>>> from rulerows.going import shortest_row, smallest_hiding, smallest_set
>>> listed = ((8,), ((1, ((1, 4),)), (1, ((6, 7),)), (2, ((1, 7),)), (1, ((1, 7),)), (2, ((5, 5),))), 0)
>>> idle(listed), own_case(listed, 2), smallest_hiding(listed, 4), hides(listed, 3, (0, 1))
((3, 4), (5,), (2,), False)
>>> can_go(listed), needing_case(listed, 0), smallest_set(listed), shortest_row(listed)
((3, 4), (1,), (0, 1, 2), (4, 3))
>>> first_case_against(listed, (3, 4)), is_against(listed, (3, 4), (5,)), first_case_against(listed, (4, 3)) is None
((5,), True, True)
>>> merged(((8,), ((1, ((1, 3),)), (1, ((4, 7),))), 0), 0), merged(((8,), ((1, ((1, 3),)), (1, ((5, 7),))), 0), 0) is None
((1, ((1, 7),)), True)
""")


if __name__ == "__main__":
    unittest.main()
