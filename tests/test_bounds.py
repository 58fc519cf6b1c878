"""bounds.py: points 84 and 87 to 89, 92 and 93."""

import itertools
import random
import unittest

from rulerows import bounds as bounds_file
from rulerows.bounds import accepts_bound, accepts_cheapest, told_table
from tests.support import (
    LISTED, LOOSE, LOOSE_LIST, NOT_INDEXES, NOT_LISTS, NOT_ROWS, NOT_WANTED, NOT_WEIGHTS, NO_RULES, ODD_VALUES,
    ONE_RULE, SEVEN_CHAINED, SEVEN_FREE, SOME_WANTED, TWO, WEIGHTS, WIDE_THIRTEEN, WIDE_TWELVE, RowsTest,
    all_rows, ascending, changed_values, coming_first, costing, crowded_goals, deep, goals_with_rows,
    goals_without_rows, matching, random_weights, ready_after, right_rows, some_wanted,
)

ANY = ("cases", ())
LISTED_ARGUMENT = ("listed", LISTED, NOT_LISTS)
ALIKE = ((8,), ((1, ((1, 1),)), (1, ((7, 7),)), (1, ((1, 2),))), 0)
ALIKE_WEIGHTS = (((1,), 4), ((2,), 1), ((7,), 3))
# Only the rules 0 and 3 can be placed: the other two hold each other back.
STUCK_LIST = ((8,), ((1, ((0, 1),)), (2, ((2, 4),)), (1, ((3, 5),)), (1, ((6, 7),))), 0)
STUCK = ("cases", (((0,), 1), ((3,), 1), ((4,), 2)))
NOT_BOUNDS = NOT_INDEXES + (100001, 100002)


def open_after(listed, weights, rules):
    return sum([weight for case, weight in weights if not set(matching(listed, case)) & set(rules)])


def told(listed, wanted, weights):
    """The told table by the words of point 88: each sequence of each set is tried."""
    able = {chosen: ready_after(listed, wanted, chosen) for chosen in coming_first(listed, wanted)}
    found = []
    for chosen in able:
        sums = []
        for row in itertools.permutations(chosen):
            parts = [tuple(sorted(row[:place])) for place in range(len(row))]
            if all([part in able and number in able[part] for part, number in zip(parts, row)]):
                sums.append(sum([open_after(listed, weights, part) for part in parts]))
        found.append((chosen, min(sums)))
    return tuple(sorted(found))


def is_whole(value):
    return type(value) is int


def has_table_form(listed, value):
    if type(value) is not tuple:
        return False
    for entry in value:
        if type(entry) is not tuple or len(entry) != 2 or type(entry[0]) is not tuple or not is_whole(entry[1]):
            return False
        if not all([is_whole(number) and 0 <= number < len(listed[1]) for number in entry[0]]):
            return False
        if list(entry[0]) != sorted(set(entry[0])):
            return False
    sets = [chosen for chosen, _ in value]
    return all([one < other for one, other in zip(sets, sets[1:])])


def right_table(listed, wanted, weights, bound, value):
    """Whether it is a right table by the words of point 87."""
    if not has_table_form(listed, value):
        return False
    table = dict(value)
    if () not in table or table[()] > 0:
        return False
    for chosen, number in value:
        for following in ready_after(listed, wanted, chosen):
            larger = tuple(sorted((*chosen, following)))
            if larger not in table or table[larger] > number + open_after(listed, weights, chosen):
                return False
    return ascending(listed) not in table or table[ascending(listed)] >= bound


class ToldTest(RowsTest):

    def test_each_goal(self):
        rng = random.Random(301)
        for listed, wanted in some_wanted(302, 200):
            weights = random_weights(rng, listed)
            self.same(told_table(listed, wanted, weights), told(listed, wanted, weights), (listed, wanted, weights))

    def test_crowded_goals(self):
        rng = random.Random(303)
        for listed, wanted, _ in crowded_goals(304, 12):
            weights = random_weights(rng, listed, 12)
            self.same(told_table(listed, wanted, weights), told(listed, wanted, weights), (listed, wanted, weights))

    def test_the_pair_of_all_rules_has_the_least_cost(self):
        rng = random.Random(305)
        for listed, wanted, rows in goals_with_rows(306, 60, 7, 24):
            weights = random_weights(rng, listed)
            least = min([costing(listed, weights, row) for row in rows[:5040]])
            self.same(dict(told_table(listed, wanted, weights))[ascending(listed)], least)

    def test_sets_ascend_as_tuples_and_not_by_their_size(self):
        sets = [chosen for chosen, _ in told_table(SEVEN_FREE, ANY, ())]
        self.same(sets[:4], [(), (0,), (0, 1), (0, 1, 2)])
        self.same(sets[-1], (6,))
        self.same(len(sets), 128)
        self.same(sets, sorted(sets))
        chained = told_table(SEVEN_CHAINED, ("self",), ())
        self.same(chained, tuple([(tuple(range(many)), 0) for many in range(8)]))

    def test_no_right_row(self):
        rng = random.Random(307)
        for listed, wanted in goals_without_rows(308, 80):
            weights = random_weights(rng, listed)
            self.same(told_table(listed, wanted, weights), told(listed, wanted, weights))
        # Rule 1 is compared with 0 in vain, or rule 0 with 2, which weighs more.
        table = (((), 0), ((0,), 5), ((0, 1), 5 + 2), ((1,), 5))
        self.same(told_table(LOOSE_LIST, LOOSE, (((2,), 3), ((0,), 2))), table)
        self.same(told_table(STUCK_LIST, STUCK, (((0,), 2), ((7,), 1))), (((), 0), ((0,), 3), ((0, 3), 4), ((3,), 3)))
        self.same(told_table(NO_RULES, ("cases", (((1,), 3),)), (((1,), 3),)), (((), 0),))

    def test_few_rules(self):
        self.same(told_table(NO_RULES, ("self",), (((1,), 1000),)), (((), 0),))
        self.same(told_table(ONE_RULE, ("self",), (((1,), 1000), ((3,), 1))), (((), 0), ((0,), 1001)))
        self.same(told_table(ONE_RULE, ("self",), ()), (((), 0), ((0,), 0)))
        self.same(told_table(ONE_RULE, ("cases", (((0,), 2),)), (((1,), 1000),)), (((), 0),))

    def test_wrong_arguments(self):
        for wanted in SOME_WANTED + (("cases", (((0, 0), 5),)),):
            for weights in ((), WEIGHTS):
                self.check_arguments(
                    told_table, LISTED_ARGUMENT, ("wanted", wanted, NOT_WANTED), ("weights", weights, NOT_WEIGHTS))


class BoundTest(RowsTest):

    def test_the_told_table_shows_each_bound_up_to_the_least_cost(self):
        rng = random.Random(309)
        for listed, wanted, rows in goals_with_rows(310, 150) + crowded_goals(311, 8):
            weights = random_weights(rng, listed)
            least = min([costing(listed, weights, row) for row in rows])
            table = told_table(listed, wanted, weights)
            for bound in (0, least // 2, least - 1, least):
                if bound >= 0:
                    self.same(accepts_bound(listed, wanted, weights, bound, table), True)
            for bound in (least + 1, least + 1000, 100000):
                self.same(accepts_bound(listed, wanted, weights, bound, table), False)

    def test_where_not_all_rules_can_come_first_it_shows_every_bound(self):
        tried = 0
        rng = random.Random(312)
        for listed, wanted in goals_without_rows(313, 150) + [(STUCK_LIST, STUCK)]:
            if ascending(listed) not in coming_first(listed, wanted):
                tried += 1
                weights = random_weights(rng, listed)
                table = told_table(listed, wanted, weights)
                for bound in (0, 1, 99999, 100000):
                    self.same(accepts_bound(listed, wanted, weights, bound, table), True)
        self.assertGreater(tried, 20)

    def test_with_a_loose_case_the_table_is_judged_all_the_same(self):
        weights = (((2,), 3), ((0,), 2))
        table = told_table(LOOSE_LIST, LOOSE, weights)
        self.same(accepts_bound(LOOSE_LIST, LOOSE, weights, 7, table), True)
        self.same(accepts_bound(LOOSE_LIST, LOOSE, weights, 8, table), False)
        self.same(accepts_bound(LOOSE_LIST, LOOSE, weights, 7, table[:2]), False)
        self.same(accepts_bound(LOOSE_LIST, LOOSE, weights, 0, ()), False)

    def test_changed_tables(self):
        rng = random.Random(314)
        tried = {True: 0, False: 0}
        for listed, wanted in some_wanted(315, 60):
            weights = random_weights(rng, listed)
            table = told_table(listed, wanted, weights)
            number = dict(table).get(ascending(listed), 0)
            for value in changed_values(rng, table, 20):
                for bound in (number, number // 2):
                    expected = right_table(listed, wanted, weights, bound, value)
                    tried[expected] += 1
                    told_one = (listed, wanted, weights, bound, value)
                    self.same(accepts_bound(listed, wanted, weights, bound, value), expected, told_one)
        self.assertGreater(min(tried.values()), 100)

    def test_random_tables(self):
        rng = random.Random(316)
        tried = {True: 0, False: 0}
        for listed, wanted in some_wanted(317, 150, 3):
            weights = random_weights(rng, listed)
            known = told_table(listed, wanted, weights)
            sets = dict(known)
            many = len(listed[1])
            for _ in range(8):
                value = []
                for chosen in sorted([c for k in range(many + 1) for c in itertools.combinations(range(many), k)]):
                    if chosen in sets and rng.random() < 0.97:
                        value.append((chosen, sets[chosen] - rng.choice((0, 0, 0, 1, 5))))
                    elif rng.random() < 0.2:
                        value.append((chosen, rng.choice((-10 ** 6, 0, 50000))))
                value = tuple(value)
                for bound in (0, sets.get(ascending(listed), 3)):
                    expected = right_table(listed, wanted, weights, bound, value)
                    tried[expected] += 1
                    self.same(accepts_bound(listed, wanted, weights, bound, value), expected)
                    if expected:
                        for row in right_rows(listed, wanted):
                            self.assertGreaterEqual(costing(listed, weights, row), bound)
        self.assertGreater(min(tried.values()), 200)

    def test_pairs_left_out_put_in_twice_and_out_of_order(self):
        table = told_table(ALIKE, ("self",), ALIKE_WEIGHTS)
        self.same(len(table), 8)
        told_one = (ALIKE, ("self",), ALIKE_WEIGHTS, 11)
        self.same(accepts_bound(*told_one, table), True)
        for at in range(8):
            self.same(accepts_bound(*told_one, table[:at] + table[at + 1:]), False)
            self.same(accepts_bound(*told_one, table[:at] + table[at:at + 1] + table[at:]), False)
            if at < 7:
                swapped = table[:at] + (table[at + 1], table[at]) + table[at + 2:]
                self.same(accepts_bound(*told_one, swapped), False)
        by_size = tuple(sorted(table, key=lambda entry: (len(entry[0]), entry[0])))
        self.same(accepts_bound(*told_one, by_size), False)
        self.same(accepts_bound(*told_one, table[::-1]), False)
        same_set = table[:1] + (((), -1),) + table[1:]
        self.same(accepts_bound(*told_one, same_set), False)
        self.same(accepts_bound(*told_one, (((), -1),) + table), False)

    def test_a_set_that_cannot_come_first_may_be_told_if_what_follows_is_told(self):
        # After rule 1 alone, rule 0 is ready.
        weights = (((3,), 5),)
        self.same(told_table(TWO, ("self",), weights), (((), 0), ((0,), 5), ((0, 1), 10)))
        for number, bound, expected in ((10, 10, True), (100000, 10, True), (9, 10, False), (4, 10, False),
                                        (10, 9, True), (9, 9, True), (8, 9, False), (-5, 0, False)):
            value = (((), 0), ((0,), 5), ((0, 1), bound), ((1,), number))
            self.same(accepts_bound(TWO, ("self",), weights, bound, value), expected, (number, bound))
        # With less behind it, the table shows less.
        value = (((), 0), ((0,), 5), ((0, 1), 3), ((1,), 3))
        self.same(accepts_bound(TWO, ("self",), weights, 3, value), True)
        self.same(accepts_bound(TWO, ("self",), weights, 4, value), False)
        # A set after which a ready rule has no pair.
        value = (((), 0), ((0,), 5), ((0, 1), 10), ((0, 2), 1000))
        self.same(accepts_bound(TWO, ("self",), weights, 10, value), False)
        value = (((), 0), ((0,), 3), ((0, 3), 1000), ((3,), 3))
        self.same(accepts_bound(STUCK_LIST, STUCK, (((0,), 2), ((7,), 1)), 100000, value), False)
        value = (((), 0), ((0,), 3), ((0, 3), 4), ((1,), 3), ((3,), 3))
        self.same(accepts_bound(STUCK_LIST, STUCK, (((0,), 2), ((7,), 1)), 100000, value), False)

    def test_each_number_one_too_great_and_one_less(self):
        table = told_table(ALIKE, ("self",), ALIKE_WEIGHTS)
        for at, (chosen, number) in enumerate(table):
            greater = table[:at] + ((chosen, number + 1),) + table[at + 1:]
            self.same(accepts_bound(ALIKE, ("self",), ALIKE_WEIGHTS, 0, greater), False, chosen)
        lower = tuple([(chosen, number - 1) for chosen, number in table])
        self.same(accepts_bound(ALIKE, ("self",), ALIKE_WEIGHTS, 10, lower), True)
        self.same(accepts_bound(ALIKE, ("self",), ALIKE_WEIGHTS, 11, lower), False)
        deeper = tuple([(chosen, number - 10 ** 40) for chosen, number in table])
        self.same(accepts_bound(ALIKE, ("self",), ALIKE_WEIGHTS, 0, deeper), False)
        bottom = (((), -7),) + table[1:]
        self.same(accepts_bound(ALIKE, ("self",), ALIKE_WEIGHTS, 0, bottom), False)
        last = tuple([(chosen, -3 if len(chosen) == 3 else number) for chosen, number in table])
        self.same(accepts_bound(ALIKE, ("self",), ALIKE_WEIGHTS, 0, last), False)

    def test_numbers_below_0(self):
        weights = (((3,), 5),)
        for bottom in (0, -1, -4, -5, -6):
            value = (((), bottom), ((0,), bottom + 5))
            self.same(accepts_bound(ONE_RULE, ("self",), weights, 0, value), bottom + 5 >= 0, bottom)
            value = (((), bottom), ((0,), bottom))
            self.same(accepts_bound(ONE_RULE, ("self",), weights, 0, value), bottom == 0, bottom)
        self.same(accepts_bound(STUCK_LIST, STUCK, (), 100000, (
            ((), -1), ((0,), -2), ((0, 3), -10 ** 30), ((3,), -1),
        )), True)
        self.same(accepts_bound(STUCK_LIST, STUCK, (), 100000, (((), -1), ((0,), 0), ((0, 3), -1), ((3,), -1))), False)

    def test_no_rules(self):
        for wanted in (("self",), ANY, ("cases", (((1,), 3),))):
            self.same(accepts_bound(NO_RULES, wanted, (((1,), 9),), 0, (((), 0),)), True)
            self.same(accepts_bound(NO_RULES, wanted, (((1,), 9),), 1, (((), 0),)), False)
            self.same(accepts_bound(NO_RULES, wanted, (((1,), 9),), 0, (((), 1),)), False)
            self.same(accepts_bound(NO_RULES, wanted, (((1,), 9),), 0, (((), -1),)), False)
            self.same(accepts_bound(NO_RULES, wanted, (((1,), 9),), 0, ()), False)
            self.same(accepts_bound(NO_RULES, wanted, (), 0, (((), 0), ((0,), 0))), False)

    def test_values_of_a_wrong_form(self):
        good = (((), 0), ((0,), 1))
        weights = (((0,), 1),)
        self.same(accepts_bound(ONE_RULE, ("self",), weights, 1, good), True)
        wrong_ones = (
            list(good), ([(), 0], ((0,), 1)), (((), 0), [(0,), 1]), (([], 0), ((0,), 1)), (((), 0), ([0], 1)),
            (((), False), ((0,), 1)), (((), 0), ((0,), True)), (((), 0), ((False,), 1)), (((), "0"), ((0,), 1)),
            (((), None), ((0,), 1)), (((), 0), ((0,), None)), (((), 0), ((0,), (1,))), (((),), ((0,), 1)),
            (((), 0, 0), ((0,), 1)), (((), 0), ((0,), 1, 1)), (((), 0), ((0,),)), (((), 0), (0, 1)), (((), 0), None),
            (((), 0), ((0, 0), 1)), (((), 0), ((1,), 1)), (((), 0), ((-1,), 1)), (((), 0), (("0",), 1)),
            (((), 0), ((None,), 1)), (((), 0), (((0,),), 1)), (((), 0), ((0,), 1), ((0, 1), 9)), {(): 0, (0,): 1},
            (((), 0), ((0,), 1), ()), (((), 0), ((0,), 1), None), (((), 0), (None, 1)), ((), 0), ((0,), 1), (good,),
            (0, ()), ((0, ()), (1, (0,))), "ab", ("ab", "cd"), (((), 0), ((0,), 1), ((1,), 1)),
            (((), 0), ((0,), 1), ((0,), 1)), (((), 0), ("", 1)),
        )
        for value in wrong_ones + ODD_VALUES:
            self.same(accepts_bound(ONE_RULE, ("self",), weights, 1, value), False, value)
            self.same(accepts_cheapest(ONE_RULE, ("self",), weights, (0,), value), False, value)
        four = (((), 0), ((0,), 3), ((0, 3), 4), ((3,), 3))
        told_one = (STUCK_LIST, STUCK, (((0,), 2), ((7,), 1)), 50)
        self.same(accepts_bound(*told_one, four), True)
        for chosen in ((3, 0), (0, 0, 3), (0, 3, 3)):
            self.same(accepts_bound(*told_one, four[:2] + ((chosen, 4),) + four[3:]), False)
            self.same(accepts_bound(*told_one, four[:3] + ((chosen, 4),) + four[3:]), False)
            self.same(accepts_bound(*told_one, four + ((chosen, 4),)), False)

    def test_very_long_and_very_deep_values(self):
        down = deep()
        for value in (down, (down,), ((down, 0),), (((), down),), (((down,), 0),), [down], ((),) * 100000,
                      (((), 0),) * 100000, (((), 0), ((0,) * 100000, 0))):
            self.assertTrue(accepts_bound(TWO, ANY, (), 0, value) is False)
            self.assertTrue(accepts_cheapest(TWO, ANY, (), (1, 0), value) is False)

    def test_bounds_0_and_100000(self):
        weights = (((7,), 1000),) * 12
        table = told_table(SEVEN_FREE, ANY, weights)
        self.same(accepts_bound(SEVEN_FREE, ANY, weights, 0, table), True)
        self.same(accepts_bound(SEVEN_FREE, ANY, weights, 84000, table), True)
        self.same(accepts_bound(SEVEN_FREE, ANY, weights, 84001, table), False)
        self.same(accepts_bound(SEVEN_FREE, ANY, weights, 100000, table), False)
        for bound in (-1, 100001, True, False, None, "0", (0,)):
            self.bad("bound", accepts_bound, SEVEN_FREE, ANY, weights, bound, table)

    def test_wrong_arguments(self):
        for wanted in SOME_WANTED + (("cases", (((0, 0), 5),)),):
            for weights, bound in (((), 0), (WEIGHTS, 100000)):
                for value in ((((), 0),), None):
                    self.check_arguments(
                        accepts_bound, LISTED_ARGUMENT, ("wanted", wanted, NOT_WANTED),
                        ("weights", weights, NOT_WEIGHTS), ("bound", bound, NOT_BOUNDS), ("value", value, ()))


class CheapestTest(RowsTest):

    def test_the_told_table_is_evidence_for_each_cheapest_row(self):
        rng = random.Random(318)
        tried = {True: 0, False: 0}
        for listed, wanted, rows in goals_with_rows(319, 150) + crowded_goals(320, 8):
            weights = random_weights(rng, listed)
            least = min([costing(listed, weights, row) for row in rows])
            table = told_table(listed, wanted, weights)
            for row in rows[:10]:
                expected = costing(listed, weights, row) == least
                tried[expected] += 1
                self.same(accepts_cheapest(listed, wanted, weights, row, table), expected)
        self.assertGreater(min(tried.values()), 100)

    def test_changed_tables(self):
        rng = random.Random(321)
        tried = {True: 0, False: 0}
        for listed, wanted, rows in goals_with_rows(322, 60):
            weights = random_weights(rng, listed)
            table = told_table(listed, wanted, weights)
            for value in changed_values(rng, table, 10):
                row = rng.choice(rows)
                expected = right_table(listed, wanted, weights, costing(listed, weights, row), value)
                tried[expected] += 1
                self.same(accepts_cheapest(listed, wanted, weights, row, value), expected, (listed, wanted, value))
        self.assertGreater(min(tried.values()), 10)

    def test_a_row_that_is_not_right(self):
        tried = 0
        for listed, wanted in some_wanted(323, 100):
            rows = right_rows(listed, wanted)
            for row in all_rows(listed):
                if row not in rows:
                    tried += 1
                    table = told_table(listed, wanted, ())
                    self.bad("row", accepts_cheapest, listed, wanted, (), row, table)
                    self.bad("row", accepts_cheapest, listed, wanted, (), row, None)
        self.assertGreater(tried, 200)

    def test_wrong_arguments(self):
        tried = 0
        for wanted in SOME_WANTED + (("cases", (((0, 0), 5),)),):
            rows = right_rows(LISTED, wanted)
            wrong_rows = NOT_ROWS + tuple([row for row in all_rows(LISTED) if row not in rows])
            for weights in ((), WEIGHTS):
                told_ones = LISTED_ARGUMENT, ("wanted", wanted, NOT_WANTED), ("weights", weights, NOT_WEIGHTS)
                row = rows[0] if rows else (0, 1, 2)
                tried += bool(rows)
                for value in (told_table(LISTED, wanted, weights), None):
                    self.check_arguments(accepts_cheapest, *told_ones, ("row", row, wrong_rows), ("value", value, ()))
        self.assertGreater(tried, 3)


class AllTest(RowsTest):

    def test_functions_are_defined_in_their_file(self):
        for name in ("told_table", "accepts_bound", "accepts_cheapest"):
            self.assertEqual(getattr(bounds_file, name).__module__, "rulerows.bounds")

    def test_twelve_pairs_and_thirteen(self):
        listed = ((8, 8), ((2, ((2, 2), (3, 3))), (1, ((0, 7), (0, 7)))), 0)
        wanted = ("cases", WIDE_TWELVE)
        table = (((), 0), ((0, 1), 12), ((1,), 12))
        self.same(told_table(listed, wanted, WIDE_TWELVE), table)
        self.same(accepts_bound(listed, wanted, WIDE_TWELVE, 12, table), True)
        self.same(accepts_cheapest(listed, wanted, WIDE_TWELVE, (1, 0), table), True)
        for wrong, weights, name in ((wanted, WIDE_THIRTEEN, "weights"), (("cases", WIDE_THIRTEEN), (), "wanted")):
            self.bad(name, told_table, listed, wrong, weights)
            self.bad(name, accepts_bound, listed, wrong, weights, 12, table)
            self.bad(name, accepts_cheapest, listed, wrong, weights, (1, 0), table)

    def test_example_of_point_93(self):
        table = told_table(ALIKE, ("self",), ALIKE_WEIGHTS)
        self.same(accepts_cheapest(ALIKE, ("self",), ALIKE_WEIGHTS, (2, 1, 0), table), True)
        for row in all_rows(ALIKE):
            expected = costing(ALIKE, ALIKE_WEIGHTS, row) == 5 + 6
            self.same(accepts_cheapest(ALIKE, ("self",), ALIKE_WEIGHTS, row, table), expected)

    def test_examples_of_the_interface(self):
        self.check_examples("""
>>> from rulerows.bounds import accepts_bound, accepts_cheapest, told_table
>>> alike = ((8,), ((1, ((1, 1),)), (1, ((7, 7),)), (1, ((1, 2),))), 0)
>>> weights = (((1,), 4), ((2,), 1), ((7,), 3))
>>> told_table(alike, ("self",), weights)[:3]
(((), 0), ((0,), 8), ((0, 1), 12))
>>> accepts_cheapest(alike, ("self",), weights, (2, 1, 0), told_table(alike, ("self",), weights))
True
>>> accepts_bound(alike, ("self",), weights, 12, told_table(alike, ("self",), weights))
False
>>> accepts_cheapest(alike, ("self",), weights, (0, 1, 2), ())
False
""")


if __name__ == "__main__":
    unittest.main()
