"""covers.py: points 21 to 28."""

import itertools
import random
import unittest

from rulerows import covers as covers_file
from rulerows.cases import count_cases
from rulerows.covers import accepts_tree, cover_tree, covers, first_shown, shows_uncovered
from rulerows.lists import shares
from tests.support import (
    EDGE_LISTS, LISTED, NOT_LISTS, NOT_NUMBERS, NOT_SETS, ODD_VALUES, WIDEST, RowsTest,
    all_cases, all_sets, deep, fitting, random_list, some_lists,
)

HALVES = ((4,), ((0, ((0, 1),)), (0, ((2, 3),)), (1, ((1, 2),)), (2, ((0, 3),))), 5)
# Four quarters of a square, and the whole of it.
QUARTERS = (
    (4, 4),
    ((0, ((0, 1), (0, 1))), (0, ((0, 1), (2, 3))), (0, ((2, 3), (0, 1))), (0, ((2, 3), (2, 3))), (1, ((0, 3), (0, 3)))),
    0,
)
QUARTERS_TREE = (
    "cut", 0, 2,
    ("cut", 1, 2, ("by", 0), ("by", 1)),
    ("cut", 1, 2, ("by", 2), ("by", 3)),
)


def good_tree(listed, chosen, box, tree):
    """The document's words, for trees that this file builds itself."""
    if not isinstance(tree, tuple) or not tree:
        return False
    if tree[0] == "by" and len(tree) == 2:
        if type(tree[1]) is not int or tree[1] not in chosen:
            return False
        ranges = listed[1][tree[1]][1]
        return all(ranges[k][0] <= box[k][0] and box[k][1] <= ranges[k][1] for k in range(len(box)))
    if tree[0] == "cut" and len(tree) == 5:
        _, field, value, lower, upper = tree
        if type(field) is not int or type(value) is not int or field not in range(len(box)):
            return False
        low, high = box[field]
        if not low < value <= high:
            return False
        lower_box = tuple([(low, value - 1) if k == field else box[k] for k in range(len(box))])
        upper_box = tuple([(value, high) if k == field else box[k] for k in range(len(box))])
        return good_tree(listed, chosen, lower_box, lower) and good_tree(listed, chosen, upper_box, upper)
    return False


def leaves(tree):
    return 1 if tree[0] == "by" else leaves(tree[3]) + leaves(tree[4])


def some_tree(rng, chosen, box, room):
    """A tree of right form and mostly right content, to be judged."""
    if room == 0 or rng.random() < 0.3:
        return ("by", rng.choice(chosen or (0,)))
    field = rng.randrange(len(box))
    low, high = box[field]
    value = rng.randint(low, high + 1) if low == high or rng.random() < 0.1 else rng.randint(low + 1, high)
    lower = box[:field] + ((low, max(low, value - 1)),) + box[field + 1:]
    upper = box[:field] + ((min(value, high), high),) + box[field + 1:]
    return ("cut", field, value, some_tree(rng, chosen, lower, room - 1), some_tree(rng, chosen, upper, room - 1))


def questions(seed, many, most_cases=24):
    """Triples of a list with rules, a set and a rule of it."""
    rng = random.Random(seed)
    found = []
    while len(found) < many:
        listed = random_list(rng, 7, most_cases)
        if listed[1]:
            found.append((listed, rng.choice(all_sets(listed)), rng.randrange(len(listed[1]))))
    return found


def pieces_of(rng, widths, box, most):
    """Rules that together match each case of the box: its parts by random cuts, some of them widened."""
    boxes = [box]
    while len(boxes) < most:
        parted = [one for one in boxes if any(low < high for low, high in one)]
        if not parted:
            break
        one = rng.choice(parted)
        field = rng.choice([k for k, (low, high) in enumerate(one) if low < high])
        low, high = one[field]
        value = rng.randint(low + 1, high)
        boxes.remove(one)
        boxes.append(one[:field] + ((low, value - 1),) + one[field + 1:])
        boxes.append(one[:field] + ((value, high),) + one[field + 1:])
    rng.shuffle(boxes)
    rules = []
    for one in boxes:
        ranges = []
        for (low, high), width in zip(one, widths):
            widened = rng.random() < 0.2
            ranges.append((rng.randint(0, low), rng.randint(high, width - 1)) if widened else (low, high))
        rules.append((rng.randrange(6), tuple(ranges)))
    return rules


def parted_questions(seed, many):
    """A rule that a set of others covers, mostly only together, or that it covers all but for a few cases."""
    rng = random.Random(seed)
    found = []
    for number in range(many):
        widths = tuple([rng.randint(2, 8) for _ in range(1 + number % 3)])
        ends = [sorted([rng.randrange(width), rng.randrange(width)]) for width in widths]
        box = tuple([(low, high) for low, high in ends])
        rules = pieces_of(rng, widths, box, rng.randint(2, 6))
        place = rng.randint(0, len(rules))
        rules.insert(place, (rng.randrange(6), box))
        chosen = [other for other in range(len(rules)) if other != place]
        if rng.random() < 0.3:
            chosen.remove(rng.choice(chosen))
        found.append(((widths, tuple(rules), 0), tuple(chosen), place))
    return found


class CoversTest(RowsTest):

    def test_covers_and_first_shown(self):
        tried = {True: 0, False: 0}
        for listed, chosen, number in questions(31, 400) + parted_questions(40, 100):
            shown = fitting(listed, (number,), chosen)
            tried[not shown] += 1
            self.same(covers(listed, chosen, number), not shown, (listed, chosen, number))
            self.same(first_shown(listed, chosen, number), shown[0] if shown else None, (listed, chosen, number))
            self.same(count_cases(listed, (number,), chosen), len(shown))
        self.assertGreater(min(tried.values()), 50)

    def test_several_rules_cover_together(self):
        self.same(covers(HALVES, (0, 1), 2), True)
        self.same(covers(HALVES, (0, 1), 3), True)
        self.same((covers(HALVES, (0,), 2), first_shown(HALVES, (0,), 2)), (False, (2,)))
        self.same((covers(HALVES, (1,), 2), first_shown(HALVES, (1,), 2)), (False, (1,)))
        self.same((covers(QUARTERS, (0, 1, 2, 3), 4), first_shown(QUARTERS, (0, 1, 3), 4)), (True, (2, 0)))

    def test_a_set_covers_its_own_rules(self):
        for listed, chosen, _ in questions(32, 60):
            for number in chosen:
                self.same(covers(listed, chosen, number), True)
                self.same(first_shown(listed, chosen, number), None)
                self.same(accepts_tree(listed, chosen, number, ("by", number)), True)

    def test_the_empty_set_covers_no_rule(self):
        for listed in EDGE_LISTS + (WIDEST,):
            for number, (_, ranges) in enumerate(listed[1]):
                self.same(covers(listed, (), number), False)
                self.same(first_shown(listed, (), number), tuple([low for low, _ in ranges]))
                self.same(cover_tree(listed, (), number), None)

    def test_a_covered_rule_behind_the_set_decides_no_case(self):
        tried = 0
        for listed, chosen, number in questions(33, 300):
            if number not in chosen and covers(listed, chosen, number):
                tried += 1
                behind = tuple([other for other in range(len(listed[1])) if other not in chosen and other != number])
                self.same(shares(listed, chosen + (number,) + behind)[number], 0)
                self.same(shares(listed, chosen[::-1] + behind + (number,))[number], 0)
        self.assertGreater(tried, 20)

    def test_covering_goes_through(self):
        tried = 0
        for listed in some_lists(34, 60, most_rules=5, most_cases=16):
            sets = all_sets(listed)
            for chosen, middle in itertools.product(sets[::3], sets[::2]):
                if all(covers(listed, chosen, number) for number in middle):
                    for number in range(len(listed[1])):
                        if covers(listed, middle, number):
                            tried += 1
                            self.same(covers(listed, chosen, number), True)
        self.assertGreater(tried, 100)

    def test_wrong_arguments(self):
        listed, chosen = ("listed", LISTED, NOT_LISTS), ("chosen", (0, 2), NOT_SETS)
        number = ("number", 1, NOT_NUMBERS)
        for function in (covers, first_shown, cover_tree):
            self.check_arguments(function, listed, chosen, number)
        for value in ((0, 0), None, deep(), ("by", 0)):
            self.check_arguments(shows_uncovered, listed, chosen, number, ("value", value, ()))
            self.check_arguments(accepts_tree, listed, chosen, number, ("value", value, ()))

    def test_no_rules_have_no_numbers(self):
        for function in (covers, first_shown, cover_tree):
            for number in (0, -1, None, False):
                self.bad("number", function, ((4,), (), 0), (), number)
            self.bad("chosen", function, ((4,), (), 0), (0,), 0)


class ShowsUncoveredTest(RowsTest):

    def test_each_case(self):
        for listed, chosen, number in questions(35, 120):
            shown = fitting(listed, (number,), chosen)
            for case in all_cases(listed[0]):
                self.same(shows_uncovered(listed, chosen, number, case), case in shown, (listed, chosen, number, case))

    def test_other_values(self):
        for value in ODD_VALUES + ([2, 1], (2,), (2, 1, 0), (2, True), (True, 1), ("2", 1), (4, 1), (2, 3), (-1, 1)):
            self.same(shows_uncovered(LISTED, (), 1, value), False, value)
        self.same(shows_uncovered(LISTED, (), 1, (1, 1)), True)
        self.same(shows_uncovered(LISTED, (0,), 1, (1, 1)), False)
        self.same(shows_uncovered(((2,), ((1, ((0, 1),)),), 0), (), 0, (True,)), False)
        self.same(shows_uncovered(((2,), ((1, ((0, 1),)),), 0), (), 0, (False,)), False)
        self.same(shows_uncovered(((2,), ((1, ((0, 1),)),), 0), (), 0, (0,)), True)

    def test_very_deep_values(self):
        down = deep()
        for value in (down, (down,), (down, down), (2, down), [down]):
            self.assertTrue(shows_uncovered(LISTED, (), 1, value) is False)


class TreesTest(RowsTest):

    def test_there_is_a_tree_or_a_case_never_both(self):
        asked = questions(36, 300) + parted_questions(39, 300) + [(WIDEST, (0, 1), 2), (WIDEST, (0, 2), 1)]
        several = 0
        for listed, chosen, number in asked:
            tree = cover_tree(listed, chosen, number)
            shown = fitting(listed, (number,), chosen)
            if shown:
                self.same(tree, None)
                self.same(shows_uncovered(listed, chosen, number, shown[0]), True)
            else:
                box = listed[1][number][1]
                self.assertTrue(good_tree(listed, chosen, box, tree), (listed, chosen, number, tree))
                self.same(accepts_tree(listed, chosen, number, tree), True)
                self.assertLessEqual(leaves(tree), len(fitting(listed, (number,), ())))
                self.same(first_shown(listed, chosen, number), None)
                several += tree[0] == "cut"
        self.assertGreater(several, 80)

    def test_trees_of_many_cuts(self):
        columns = tuple([(number % 6, ((0, 7), (number, number), (0, 7))) for number in range(6)])
        listed = ((8, 8, 8), columns + ((1, ((1, 6), (0, 5), (2, 2))),), 0)
        tree = cover_tree(listed, (0, 1, 2, 3, 4, 5), 6)
        self.assertTrue(good_tree(listed, (0, 1, 2, 3, 4, 5), listed[1][6][1], tree))
        self.same(accepts_tree(listed, (0, 1, 2, 3, 4, 5), 6, tree), True)
        self.same(cover_tree(listed, (0, 1, 2, 3, 4), 6), None)
        self.same(accepts_tree(listed, (0, 1, 2, 3, 4), 6, tree), False)
        tree = cover_tree(QUARTERS, (0, 1, 2, 3), 4)
        self.assertTrue(good_tree(QUARTERS, (0, 1, 2, 3), ((0, 3), (0, 3)), tree))

    def test_trees_of_many_kinds_are_judged(self):
        rng = random.Random(37)
        tried = {True: 0, False: 0}
        for listed, chosen, number in questions(38, 300, most_cases=12):
            box = listed[1][number][1]
            for _ in range(12):
                tree = some_tree(rng, chosen, box, rng.randint(0, 4))
                expected = good_tree(listed, chosen, box, tree)
                tried[expected] += 1
                self.same(accepts_tree(listed, chosen, number, tree), expected, (listed, chosen, number, tree))
                if expected:
                    self.same(covers(listed, chosen, number), True)
        self.assertGreater(min(tried.values()), 100)

    def test_each_cut(self):
        everywhere = ((8,), ((1, ((0, 7),)), (2, ((2, 5),))), 0)
        for value in range(-1, 10):
            tree = ("cut", 0, value, ("by", 0), ("by", 0))
            self.same(accepts_tree(everywhere, (0,), 1, tree), 3 <= value <= 5, value)
        for field in range(-2, 4):
            tree = ("cut", field, 2, ("by", 4), ("by", 4))
            self.same(accepts_tree(QUARTERS, (4,), 4, tree), field in (0, 1), field)

    def test_a_cut_of_a_single_value(self):
        for value in range(-1, 3):
            tree = ("cut", 0, value, ("by", 0), ("by", 0))
            self.same(accepts_tree(((1,), ((1, ((0, 0),)),), 0), (0,), 0, tree), False)

    def test_wrong_trees(self):
        def accepted(value, chosen=(0, 1)):
            return accepts_tree(HALVES, chosen, 3, value)

        self.same(accepted(("cut", 0, 2, ("by", 0), ("by", 1))), True)
        for value in ODD_VALUES + (
            ("by", 0), ("by", 1), ("by", 3), ("by",), ("by", 0, 1), ("cut", 0, 2, ("by", 0)),
            ("cut", 0, 2, ("by", 0), ("by", 1), ("by", 1)), ["cut", 0, 2, ("by", 0), ("by", 1)],
            ("cut", 0, 2, ["by", 0], ("by", 1)), ("cut", 0, 2, ("by", 0), ["by", 1]), ("cut", 0, 2, ("by", 1), ("by", 0)),
            ("cut", 0, 1, ("by", 0), ("by", 1)), ("cut", 0, 3, ("by", 0), ("by", 1)), ("cut", 1, 2, ("by", 0), ("by", 1)),
            ("cut", -1, 2, ("by", 0), ("by", 1)), ("cut", False, 2, ("by", 0), ("by", 1)),
            ("cut", 0, "2", ("by", 0), ("by", 1)), ("cut", 0, None, ("by", 0), ("by", 1)),
            ("cut", None, 2, ("by", 0), ("by", 1)), ("cut", "0", 2, ("by", 0), ("by", 1)),
            ("cut", 0, (2,), ("by", 0), ("by", 1)), ("cut", (0,), 2, ("by", 0), ("by", 1)),
            ("cut", 0, 2, ("by", False), ("by", 1)), ("cut", 0, 2, ("by", 0), ("by", True)),
            ("cut", 0, 2, ("by", "0"), ("by", 1)), ("cut", 0, 2, ("by", None), ("by", 1)),
            ("cut", 0, 2, ("by", (0,)), ("by", 1)), ("cut", 0, 2, ("by", 0), ("by", 2)),
            ("cut", 0, 2, ("by", 0), ("by", 7)), ("cut", 0, 2, ("by", -4), ("by", -3)), ("cut", 0, 2, ("by", 0), None),
            ("cut", 0, 2, None, ("by", 1)), ("Cut", 0, 2, ("by", 0), ("by", 1)), ("by", 0, 2, ("by", 0), ("by", 1)),
            ("cut", 3), (None, 0, 2, ("by", 0), ("by", 1)), ("cut", 0, 2, ("By", 0), ("by", 1)), (0, 3), ("by", "3"),
            ("cut", 0, 2, (None, 0), ("by", 1)), ("cut", 0, 2, 0, 1), ("cut", 0, 4, ("by", 3), ("by", 3)),
            ("cut", 0, 0, ("by", 3), ("by", 3)),
        ):
            self.same(accepted(value), False, value)

    def test_true_and_false_are_no_integers(self):
        two = ((2,), ((1, ((0, 1),)), (2, ((0, 1),))), 0)
        self.same(accepts_tree(two, (0, 1), 0, ("by", 1)), True)
        self.same(accepts_tree(two, (0, 1), 0, ("by", True)), False)
        self.same(accepts_tree(two, (0, 1), 0, ("by", False)), False)
        self.same(accepts_tree(two, (0, 1), 0, ("cut", 0, 1, ("by", 0), ("by", 1))), True)
        self.same(accepts_tree(two, (0, 1), 0, ("cut", 0, True, ("by", 0), ("by", 1))), False)
        self.same(accepts_tree(two, (0, 1), 0, ("cut", False, 1, ("by", 0), ("by", 1))), False)
        square = ((1, 2), ((1, ((0, 0), (0, 1))),), 0)
        self.same(accepts_tree(square, (0,), 0, ("cut", 1, 1, ("by", 0), ("by", 0))), True)
        self.same(accepts_tree(square, (0,), 0, ("cut", True, 1, ("by", 0), ("by", 0))), False)
        self.same(accepts_tree(square, (0,), 0, ("cut", 0, 1, ("by", 0), ("by", 0))), False)

    def test_only_rules_of_the_set(self):
        self.same(accepts_tree(HALVES, (3,), 2, ("by", 3)), True)
        self.same(accepts_tree(HALVES, (0, 1), 2, ("by", 3)), False)
        self.same(accepts_tree(HALVES, (0, 1), 2, ("by", 2)), False)
        self.same(accepts_tree(HALVES, (), 2, ("by", 2)), False)
        self.same(accepts_tree(HALVES, (0, 1, 2), 2, ("by", 2)), True)

    def test_the_tree_is_one_for_the_box_of_the_rule(self):
        self.same(accepts_tree(QUARTERS, (0, 1, 2, 3), 4, QUARTERS_TREE), True)
        self.same(accepts_tree(QUARTERS, (0, 1, 2), 4, QUARTERS_TREE), False)
        # The box of the rule 0 has no such cut.
        self.same(accepts_tree(QUARTERS, (0, 1, 2, 3), 0, QUARTERS_TREE), False)
        # The upper box has no cut at a value of the lower one.
        tree = ("cut", 0, 2, ("cut", 0, 1, ("by", 4), ("by", 4)), ("cut", 0, 1, ("by", 4), ("by", 4)))
        self.same(accepts_tree(QUARTERS, (4,), 4, tree), False)
        tree = ("cut", 0, 2, ("cut", 0, 1, ("by", 4), ("by", 4)), ("cut", 0, 3, ("by", 4), ("by", 4)))
        self.same(accepts_tree(QUARTERS, (4,), 4, tree), True)
        tree = ("cut", 0, 2, ("cut", 0, 2, ("by", 4), ("by", 4)), ("by", 4))
        self.same(accepts_tree(QUARTERS, (4,), 4, tree), False)
        tree = ("cut", 0, 2, ("by", 4), ("cut", 0, 2, ("by", 4), ("by", 4)))
        self.same(accepts_tree(QUARTERS, (4,), 4, tree), False)

    def test_a_tree_of_single_cases(self):
        def whole(box):
            for field, (low, high) in enumerate(box):
                if low < high:
                    lower, upper = list(box), list(box)
                    lower[field], upper[field] = (low, low), (low + 1, high)
                    return ("cut", field, low + 1, whole(lower), whole(upper))
            return ("by", 0)

        listed = ((8, 8, 8), ((1, ((0, 7),) * 3), (2, ((0, 7),) * 3)), 0)
        tree = whole(((0, 7),) * 3)
        self.same(leaves(tree), 512)
        self.same(accepts_tree(listed, (0,), 1, tree), True)
        self.same(accepts_tree(listed, (0,), 1, ("cut", 0, 1, tree, tree)), False)

    def test_very_deep_values(self):
        down = deep()
        for value in (down, ("by", down), (down, 0), (down, 3), ("cut", 0, 2, down, down), ("cut", down, 2, 0, 0)):
            self.assertTrue(accepts_tree(HALVES, (0, 1), 3, value) is False)
        for value in (("cut", 0, down, 0, 0), ("cut", 0, 2, ("by", 0), down), (down, 0, 2, ("by", 0), ("by", 1))):
            self.assertTrue(accepts_tree(HALVES, (0, 1), 3, value) is False)
        for at in (0, 1, 2, 3):
            lower, upper, both = ("by", 0), ("by", 1), ("by", 3)
            for _ in range(50000):
                lower = ("cut", 0, at, lower, ("by", 1))
                upper = ("cut", 0, at, ("by", 0), upper)
                both = ("cut", 0, at, both, both)
            for value in (lower, upper, both):
                self.assertTrue(accepts_tree(HALVES, (0, 1, 3), 3, value) is False)


class AllTest(RowsTest):

    def test_functions_are_defined_in_their_file(self):
        for name in ("covers", "first_shown", "shows_uncovered", "cover_tree", "accepts_tree"):
            self.assertEqual(getattr(covers_file, name).__module__, "rulerows.covers")

    def test_example_of_point_28(self):
        listed = ((4, 4), ((1, ((0, 1), (0, 3))), (2, ((1, 3), (1, 3)))), 0)
        self.same(count_cases(listed, (0, 1), ()), 3)
        self.same(covers(listed, (0,), 1), False)
        self.same(shows_uncovered(listed, (0,), 1, (2, 1)), True)

    def test_examples_of_the_interface(self):
        self.check_examples("""
>>> from rulerows.cases import count_cases, index_of_case, nth_case
>>> from rulerows.covers import accepts_tree, cover_tree, covers, first_shown, shows_uncovered
>>> listed = ((4, 4), ((1, ((0, 1), (0, 3))), (2, ((1, 3), (1, 3)))), 0)
>>> count_cases(listed, (0, 1), ()), count_cases(listed, (0,), (1,)), count_cases(listed, (), (0, 1))
(3, 5, 2)
>>> nth_case(listed, (0,), (1,), 4), index_of_case(listed, (), (0, 1), (3, 0)), index_of_case(listed, (0,), (1,), (1, 1)) is None
((1, 0), 1, True)
>>> covers(listed, (0,), 1), first_shown(listed, (0,), 1), shows_uncovered(listed, (0,), 1, (3, 3)), shows_uncovered(listed, (0,), 1, (3, 0))
(False, (2, 1), True, False)
>>> halves = ((4,), ((0, ((0, 1),)), (0, ((2, 3),)), (1, ((1, 2),))), 5)
>>> covers(halves, (0, 1), 2), accepts_tree(halves, (0, 1), 2, ("cut", 0, 2, ("by", 0), ("by", 1)))
(True, True)
>>> accepts_tree(halves, (0, 1), 2, ("cut", 0, 1, ("by", 0), ("by", 1))), accepts_tree(halves, (0, 1), 2, cover_tree(halves, (0, 1), 2)), cover_tree(halves, (0,), 2) is None
(False, True, True)
""")


if __name__ == "__main__":
    unittest.main()
