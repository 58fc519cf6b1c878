"""fences.py: points 62 to 64 and 71."""

import itertools
import random
import unittest

from rulerows import fences as fences_file
from rulerows.before import relation
from rulerows.fences import accepts_before, before_evidence
from tests.support import (
    EDGE_LISTS, LISTED, NOT_LISTS, NOT_NUMBERS, NOT_ROWS, NOT_WANTED, NO_RULES, ODD_VALUES, ONE_RULE, SEVEN_CHAINED,
    SEVEN_FREE, SOME, SOME_WANTED, TWO, WIDEST, WIDE_THIRTEEN, WIDE_TWELVE, RowsTest,
    all_cases, all_rows, ascending, changed_values, crowded_goals, deep, goals_with_rows, goals_without_rows, kinds,
    matching, right_rows, wanted_actions,
)

ANY = ("cases", ())
AGAINST = ("cases", (((1,), 3),))
LISTED_ARGUMENT = ("listed", LISTED, NOT_LISTS)
# With "self", rule 0 stands before rule 1, and rule 1 before rule 2.
CHAIN = ((8,), SEVEN_CHAINED[1][:3], 2)


def holds(listed, wanted, first, second, value):
    """Whether it is evidence by the words of point 63, for values of a right form."""
    word, content = value
    if word == "not":
        return content in right_rows(listed, wanted) and content.index(second) < content.index(first)
    numbers = [number for number, _ in content]
    if numbers != sorted(set(numbers)) or second not in numbers or first in numbers:
        return False
    actions = wanted_actions(listed, wanted)
    for number, case in content:
        standing = matching(listed, case)
        if case not in actions or number not in standing or actions[case] == listed[1][number][0]:
            return False
        if set(standing) - set(numbers) - {first}:
            return False
    return True


def always_values(listed, most):
    """Values with so many pairs at most, of all rules and all cases, in each sequence."""
    pairs = list(itertools.product(ascending(listed), all_cases(listed[0])))
    found = []
    for many in range(most + 1):
        found += [("always", told) for told in itertools.product(pairs, repeat=many)]
    return found


def pool(seed):
    return goals_with_rows(seed, 120, 5) + crowded_goals(seed + 1, 15) + [(SOME, ("self",), right_rows(SOME, ("self",)))]


class EvidenceTest(RowsTest):

    def test_it_is_of_the_right_word_and_accepted(self):
        tried = {"always": 0, "not": 0}
        for listed, wanted, rows in pool(151):
            for first, second in itertools.permutations(ascending(listed), 2):
                told = (listed, wanted, first, second)
                always = all(row.index(first) < row.index(second) for row in rows)
                value = before_evidence(listed, wanted, first, second)
                self.assertEqual(kinds(value)[0], "tuple")
                self.same(value[0], "always" if always else "not", told)
                tried[value[0]] += 1
                self.same(len(value), 2)
                self.same(holds(listed, wanted, first, second, value), True, told)
                self.same(accepts_before(listed, wanted, first, second, value), True, told)
                self.same(relation(listed, wanted, first, second) == "before", always)
        self.assertGreater(min(tried.values()), 100)

    def test_seven_rules(self):
        for listed, wanted, rows in goals_with_rows(153, 15, 7, 24):
            for first, second in list(itertools.permutations(ascending(listed), 2))[::5]:
                value = before_evidence(listed, wanted, first, second)
                always = all(row.index(first) < row.index(second) for row in rows)
                self.same(value[0], "always" if always else "not")
                self.same(accepts_before(listed, wanted, first, second, value), True)
        pairs = tuple([(number, (number,)) for number in range(3, 7)])
        self.same(accepts_before(SEVEN_CHAINED, ("self",), 2, 6, ("always", pairs)), True)
        self.same(accepts_before(SEVEN_CHAINED, ("self",), 2, 6, before_evidence(SEVEN_CHAINED, ("self",), 2, 6)), True)
        self.same(before_evidence(SEVEN_FREE, ANY, 0, 6)[0], "not")

    def test_no_right_row(self):
        tried = 0
        goals = goals_without_rows(154, 150) + [(TWO, AGAINST)]
        for listed, wanted in goals:
            for first, second in itertools.permutations(ascending(listed), 2):
                tried += 1
                self.not_possible("none", before_evidence, listed, wanted, first, second)
                for value in (None, ("not", ascending(listed)), ("always", ((second, (0,) * len(listed[0])),))):
                    self.not_possible("none", accepts_before, listed, wanted, first, second, value)
        self.assertGreater(tried, 60)
        # A loose case alone.
        listed, wanted = ((4,), ((1, ((0, 1),)), (2, ((1, 2),))), 0), ("cases", (((0,), 1), ((1,), 1), ((3,), 5)))
        self.not_possible("none", before_evidence, listed, wanted, 0, 1)
        self.not_possible("none", accepts_before, listed, wanted, 0, 1, ("always", ((1, (1,)),)))

    def test_few_rules(self):
        for number in (0, 1, -1, None, False):
            self.bad("first", before_evidence, NO_RULES, ("self",), number, 0)
            self.bad("second", before_evidence, ONE_RULE, ("self",), 0, number)
            self.bad("first", accepts_before, NO_RULES, ("self",), number, 0, None)
            self.bad("second", accepts_before, ONE_RULE, ("self",), 0, number, None)

    def test_wrong_arguments(self):
        # For the last of these no row is right: wrong arguments are told ahead of that.
        for wanted in SOME_WANTED + (("cases", (((0, 0), 5),)),):
            for first in range(3):
                told = (
                    LISTED_ARGUMENT, ("wanted", wanted, NOT_WANTED), ("first", first, NOT_NUMBERS),
                    ("second", 2 - first // 2, NOT_NUMBERS + (first,)),
                )
                self.check_arguments(before_evidence, *told)
                for value in (None, ("not", (1, 2, 0)), ("always", ())):
                    self.check_arguments(accepts_before, *told, ("value", value, ()))


class AcceptsTest(RowsTest):

    def test_each_row(self):
        tried = {True: 0, False: 0}
        for listed, wanted, rows in goals_with_rows(155, 60):
            for first, second in itertools.permutations(ascending(listed), 2):
                for row in all_rows(listed):
                    expected = row in rows and row.index(second) < row.index(first)
                    tried[expected] += 1
                    told = (listed, wanted, first, second, row)
                    self.same(accepts_before(listed, wanted, first, second, ("not", row)), expected, told)
        self.assertGreater(min(tried.values()), 200)

    def test_all_values_of_few_pairs(self):
        tried = {True: 0, False: 0}
        for listed, wanted, _ in goals_with_rows(156, 160, 3, 5) + [(TWO, ("self",), None), (CHAIN, ("self",), None)]:
            for first, second in itertools.permutations(ascending(listed), 2):
                for value in always_values(listed, 2):
                    expected = holds(listed, wanted, first, second, value)
                    tried[expected] += 1
                    told = (listed, wanted, first, second, value)
                    self.same(accepts_before(listed, wanted, first, second, value), expected, told)
        self.assertGreater(min(tried.values()), 40)

    def test_exactly_one_of_the_words(self):
        for listed, wanted, _ in goals_with_rows(157, 60, 3, 6):
            for first, second in itertools.permutations(ascending(listed), 2):
                rows = [("not", row) for row in all_rows(listed)]
                against = any(accepts_before(listed, wanted, first, second, value) for value in rows)
                values = always_values(listed, len(listed[1]) - 1)
                always = any(accepts_before(listed, wanted, first, second, value) for value in values)
                self.same(always, not against, (listed, wanted, first, second))

    def test_pairs_that_fence_nothing(self):
        good = ((1, (1,)), (2, (2,)))
        self.same(accepts_before(CHAIN, ("self",), 0, 2, ("always", good)), True)
        self.same(accepts_before(CHAIN, ("self",), 0, 1, ("always", good)), True)
        self.same(accepts_before(CHAIN, ("self",), 1, 2, ("always", ((2, (2,)),))), True)
        self.same(accepts_before(CHAIN, ("self",), 0, 1, ("always", ((1, (1,)),))), True)
        for first, second, pairs in (
            # Without the second rule, with the first one, or for other rules.
            (0, 2, ((1, (1,)),)), (0, 2, ((2, (2,)),)), (1, 2, good), (2, 1, good), (1, 0, good), (2, 0, good),
            # Twice, or out of order, or none at all.
            (0, 2, good[::-1]), (0, 2, good + good[1:]), (0, 2, good[:1] + good), (0, 2, good + good), (0, 2, ()),
            # Cases that the rule does not match, or may decide, or that another rule matches.
            (0, 2, ((1, (1,)), (2, (3,)))), (0, 2, ((1, (2,)), (2, (2,)))), (0, 2, ((1, (0,)), (2, (2,)))),
            (0, 2, ((1, (1,)), (2, (1,)))), (0, 2, ((1, (7,)), (2, (2,)))), (0, 1, ((1, (2,)),)),
            # A rule that is none.
            (0, 2, good + ((3, (2,)),)), (0, 2, ((-1, (1,)),) + good), (0, 2, good + ((7, (7,)),)),
        ):
            self.same(accepts_before(CHAIN, ("self",), first, second, ("always", pairs)), False, (first, second, pairs))

    def test_a_case_that_the_first_rule_matches(self):
        # Of the values that both rules match, each will do; of those that only rule 1 matches, none.
        listed = ((8,), ((1, ((0, 4),)), (2, ((3, 7),))), 0)
        for value in range(8):
            self.same(accepts_before(listed, ("self",), 0, 1, ("always", ((1, (value,)),))), 3 <= value <= 4)
        # The first rule need not match the case: rule 2 cannot stand ahead of rule 1, which stands behind rule 0.
        self.same(matching(CHAIN, (2,)), (1, 2))
        self.same(accepts_before(CHAIN, ("self",), 0, 2, ("always", ((1, (1,)), (2, (2,))))), True)

    def test_values_of_other_kinds(self):
        bad = list(ODD_VALUES + NOT_ROWS) + ["not", "always", ("not",), ("always",), (1, 0), ((1, (1,)),)]
        for value in bad:
            self.same(accepts_before(CHAIN, ANY, 0, 2, value), False, value)
            for word in ("not", "always"):
                self.same(accepts_before(CHAIN, ANY, 0, 2, (word, value)), False, value)

    def test_near_misses(self):
        not_always, always = ("not", (2, 0, 1)), ("always", ((1, (1,)), (2, (2,))))
        good = ((CHAIN, ANY, 0, 2, not_always), (CHAIN, ("self",), 0, 2, always))
        for listed, wanted, first, second, value in good:
            word, content = value
            self.same(accepts_before(listed, wanted, first, second, value), True)
            for other in (
                [word, content], (word, list(content)), (word, content, ()), (word, (content,)), (content, word),
                (word.upper(), content), (None, content), (0, content), ("", content), (word,), (word, *content),
                (word, None), ((word,), content), (word, content + (0,)), (word, content[:-1]), ("row", content),
                ("blocked", content), ("before", content),
            ):
                self.same(accepts_before(listed, wanted, first, second, other), False, other)
        self.same(accepts_before(CHAIN, ANY, 0, 2, ("always", (2, 0, 1))), False)
        self.same(accepts_before(CHAIN, ("self",), 0, 2, ("not", always[1])), False)
        for row in ((0, 2, 1), (0, 1, 2), (1, 0, 2), (2, False, True), (2, 0, True), (2, 0), (2, 0, 1, 1)):
            self.same(accepts_before(CHAIN, ANY, 0, 2, ("not", row)), False, row)
        for pairs in (
            ((True, (1,)), (2, (2,))), ((1, (True,)), (2, (2,))), ((1, [1]), (2, (2,))), ([1, (1,)], (2, (2,))),
            ((1, (1,)), (2,)), ((1, (1,)), (2, (2,), 0)), ((1, (1,)), None), ((1, (1,)), 2), ((1, 1), (2, 2)),
            ((1, (1, 0)), (2, (2, 0))), ((1, ()), (2, ())), ((1, (8,)), (2, (2,))), ((1, (-1,)), (2, (2,))),
            (("1", (1,)), (2, (2,))), ((1, ("1",)), (2, (2,))), ((None, (1,)), (2, (2,))), (((1,), 1), ((2,), 2)),
        ):
            self.same(accepts_before(CHAIN, ("self",), 0, 2, ("always", pairs)), False, pairs)

    def test_changed_evidence(self):
        rng = random.Random(158)
        tried = {True: 0, False: 0}
        for listed, wanted, _ in pool(159):
            for first, second in list(itertools.permutations(ascending(listed), 2))[::3]:
                value = before_evidence(listed, wanted, first, second)
                for other in changed_values(rng, value, 6):
                    got = accepts_before(listed, wanted, first, second, other)
                    tried[got] += 1
                    if got:
                        # Whoever wrote it, it is so.
                        self.same(other[0], value[0], (listed, wanted, first, second, other))
                        self.same(holds(listed, wanted, first, second, other), True)
        self.assertGreater(min(tried.values()), 20)

    def test_very_deep_values(self):
        down = deep()
        for value in (down, (down, down), ("not", down), ("not", (down, 0, 1)), ("always", down), ("always", (down,))):
            self.assertTrue(accepts_before(CHAIN, ("self",), 0, 2, value) is False)
        for value in (("always", ((1, down), (2, (2,)))), ("always", ((down, (1,)), (2, (2,)))), (down, (2, 0, 1))):
            self.assertTrue(accepts_before(CHAIN, ("self",), 0, 2, value) is False)


class AllTest(RowsTest):

    def test_functions_are_defined_in_their_file(self):
        for name in ("before_evidence", "accepts_before"):
            self.assertEqual(getattr(fences_file, name).__module__, "rulerows.fences")

    def test_edge_lists(self):
        for listed in EDGE_LISTS + (WIDEST,):
            for wanted in (("self",), ANY):
                for first, second in list(itertools.permutations(ascending(listed), 2))[::4]:
                    value = before_evidence(listed, wanted, first, second)
                    self.same(accepts_before(listed, wanted, first, second, value), True)
                    self.same(value[0] == "always", relation(listed, wanted, first, second) == "before")

    def test_twelve_pairs_and_thirteen(self):
        listed = ((8, 8), ((2, ((2, 2), (3, 3))), (1, ((0, 7), (0, 7)))), 0)
        twelve, thirteen = ("cases", WIDE_TWELVE), ("cases", WIDE_THIRTEEN)
        self.same(accepts_before(listed, twelve, 1, 0, ("always", ((0, (2, 3)),))), True)
        self.same(accepts_before(listed, twelve, 0, 1, ("not", (1, 0))), True)
        self.same(accepts_before(listed, twelve, 1, 0, before_evidence(listed, twelve, 1, 0)), True)
        self.bad("wanted", accepts_before, listed, thirteen, 1, 0, ("always", ((0, (2, 3)),)))
        self.bad("wanted", before_evidence, listed, thirteen, 1, 0)

    def test_examples_of_the_interface(self):
        self.check_examples("""
>>> from rulerows.before import always_before, between, choice, ends, needed_sets, places, relation
>>> from rulerows.fences import accepts_before, before_evidence
>>> some = ((8,), ((1, ((0, 3),)), (1, ((2, 6),)), (2, ((2, 3),))), 0)
>>> always_before(some, ("self",)), places(some, ("self",), 2), needed_sets(some, ("self",), 2), choice(some, ("self",))
([], (1, 2), [(0,), (1,)], 2)
>>> ends(some, ("self",)), between(some, ("self",), 0, 2), relation(some, ("self",), 0, 2)
(((0, 1), (0, 1, 2)), (), 'both')
>>> two = ((4,), ((1, ((0, 2),)), (2, ((1, 3),))), 0)
>>> always_before(two, ("self",)), before_evidence(two, ("self",), 0, 1)[0], accepts_before(two, ("self",), 0, 1, ("always", ((1, (2,)),)))
([(0, 1)], 'always', True)
>>> accepts_before(some, ("self",), 0, 2, ("not", (1, 2, 0))), accepts_before(some, ("self",), 0, 2, ("always", ((2, (2,)),)))
(True, False)
""")


if __name__ == "__main__":
    unittest.main()
