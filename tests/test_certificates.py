"""certificates.py: points 43 to 45 and 48."""

import itertools
import random
import unittest

from rulerows import certificates as certificates_file
from rulerows.certificates import accepts, certificate
from rulerows.ready import first_row
from tests.support import (
    EDGE_LISTS, LISTED, NOT_LISTS, NOT_ROWS, NOT_WANTED, NO_RULES, ODD_VALUES, ONE_RULE, SEVEN_FREE, SOME_WANTED,
    TWO, WIDEST, WIDE_THIRTEEN, WIDE_TWELVE, RowsTest,
    all_cases, all_rows, ascending, changed_values, deep, kinds, matching, ready_after, right_rows, some_wanted,
    unmet_cases, wanted_actions,
)

SWAPPED = ("cases", (((0,), 1), ((1,), 2), ((3,), 2)))
STUCK = ("cases", (((1,), 1), ((2,), 2)))
STUCK_PAIRS = ((0, (2,)), (1, (1,)))
LOOSE = ("cases", (((0,), 0), ((2,), 1), ((3,), 4)))


def told(listed, wanted):
    """The told certificate by the words of point 45."""
    loose = unmet_cases(listed, wanted)
    if loose:
        return ("loose", loose[0])
    rows = right_rows(listed, wanted)
    if rows:
        return ("row", rows[0])
    placed = ()
    while ready_after(listed, wanted, placed):
        placed = (*placed, ready_after(listed, wanted, placed)[-1])
    pairs = []
    for number in ascending(listed):
        if number not in placed:
            for case, action in wanted_actions(listed, wanted).items():
                standing = matching(listed, case)
                if number in standing and not set(placed) & set(standing) and action != listed[1][number][0]:
                    pairs.append((number, case))
                    break
    return ("blocked", tuple(pairs))


def good_certificate(listed, wanted, value):
    """Whether it is a certificate by the words of points 43 and 44, for values of a right form."""
    word, content = value
    actions = wanted_actions(listed, wanted)
    if word == "row":
        return content in right_rows(listed, wanted)
    if word == "loose":
        return content in unmet_cases(listed, wanted)
    numbers = [number for number, _ in content]
    if not numbers or numbers != sorted(set(numbers)):
        return False
    for number, case in content:
        standing = matching(listed, case)
        if case not in actions or number not in standing or actions[case] == listed[1][number][0]:
            return False
        if set(standing) - set(numbers):
            return False
    return True


def blocked_values(listed):
    """Values with a blocked set of up to two pairs, of all rules and all cases, in each sequence."""
    pairs = list(itertools.product(ascending(listed), all_cases(listed[0])))
    found = [("blocked", ())] + [("blocked", (pair,)) for pair in pairs]
    return found + [("blocked", two) for two in itertools.product(pairs, pairs)]


class CertificateTest(RowsTest):

    def test_the_told_certificate(self):
        tried = {"row": 0, "blocked": 0, "loose": 0}
        for listed, wanted in some_wanted(81, 400, 5):
            expected = told(listed, wanted)
            tried[expected[0]] += 1
            self.same(certificate(listed, wanted), expected, (listed, wanted))
        self.assertGreater(min(tried.values()), 15)

    def test_seven_rules(self):
        tried = {"row": 0, "blocked": 0, "loose": 0}
        chosen = [pair for pair in some_wanted(82, 400, 7, 24) if len(pair[0][1]) == 7]
        for listed, wanted in chosen[:40]:
            expected = told(listed, wanted)
            tried[expected[0]] += 1
            self.same(certificate(listed, wanted), expected, (listed, wanted))
        self.assertGreater(tried["row"], 2)
        self.assertGreater(tried["blocked"], 2)
        self.same(certificate(SEVEN_FREE, ("cases", ())), ("row", (0, 1, 2, 3, 4, 5, 6)))
        against = ("cases", tuple([((value,), 5) for value in range(7)]))
        pairs = tuple([(number, (number,)) for number in range(7)])
        self.same(certificate(SEVEN_FREE, against), ("blocked", pairs))
        self.same(accepts(SEVEN_FREE, against, ("blocked", pairs)), True)

    def test_the_first_loose_case_comes_ahead_of_everything_else(self):
        listed = ((8,), ((1, ((0, 1),)), (2, ((1, 2),))), 0)
        right = (((0,), 1), ((2,), 2))
        blocked = (((0,), 3), ((2,), 4))
        loose = (((3,), 0), ((5,), 4), ((6,), 5))
        self.same(certificate(listed, ("cases", right + loose)), ("loose", (5,)))
        self.same(certificate(listed, ("cases", blocked + loose)), ("loose", (5,)))
        self.same(certificate(listed, ("cases", right)), ("row", (0, 1)))
        self.same(certificate(listed, ("cases", blocked)), ("blocked", ((0, (0,)), (1, (2,)))))

    def test_rules_that_are_placed_are_not_blocked(self):
        # Rule 2 can be placed; the cases that it matches hold nobody back then.
        listed = ((8,), ((1, ((0, 4),)), (2, ((0, 5),)), (3, ((0, 1),))), 0)
        wanted = ("cases", (((0,), 3), ((1,), 3), ((2,), 2), ((3,), 1), ((4,), 2)))
        self.same(certificate(listed, wanted), ("blocked", ((0, (2,)), (1, (3,)))))

    def test_no_rules_one_rule_and_nothing_wanted(self):
        self.same(certificate(NO_RULES, ("self",)), ("row", ()))
        self.same(certificate(NO_RULES, ("cases", ())), ("row", ()))
        self.same(certificate(NO_RULES, LOOSE), ("loose", (2,)))
        self.same(certificate(ONE_RULE, ("self",)), ("row", (0,)))
        self.same(certificate(ONE_RULE, ("cases", (((0,), 2), ((1,), 3)))), ("blocked", ((0, (0,)),)))
        for listed in EDGE_LISTS + (WIDEST,):
            self.same(certificate(listed, ("cases", ())), ("row", ascending(listed)))
            self.same(certificate(listed, ("self",)), ("row", ascending(listed)))

    def test_it_is_accepted(self):
        for listed, wanted in some_wanted(83, 300, 7) + [(WIDEST, ("self",))]:
            self.same(accepts(listed, wanted, certificate(listed, wanted)), True, (listed, wanted))
            self.same(certificate(listed, wanted)[0] == "row", first_row(listed, wanted) is not None)

    def test_wrong_arguments(self):
        for wanted in SOME_WANTED:
            self.check_arguments(certificate, ("listed", LISTED, NOT_LISTS), ("wanted", wanted, NOT_WANTED))
            for value in (("row", (0, 1, 2)), None, ["row"]):
                told_value = ("value", value, ())
                self.check_arguments(accepts, ("listed", LISTED, NOT_LISTS), ("wanted", wanted, NOT_WANTED), told_value)


class AcceptsTest(RowsTest):

    def test_each_row(self):
        tried = {True: 0, False: 0}
        for listed, wanted in some_wanted(84, 150):
            rows = right_rows(listed, wanted)
            for row in all_rows(listed):
                tried[row in rows] += 1
                self.same(accepts(listed, wanted, ("row", row)), row in rows, (listed, wanted, row))
        self.assertGreater(min(tried.values()), 100)

    def test_each_loose_case(self):
        tried = 0
        for listed, wanted in some_wanted(85, 400):
            loose = unmet_cases(listed, wanted)
            tried += len(loose)
            for case in all_cases(listed[0]):
                self.same(accepts(listed, wanted, ("loose", case)), case in loose, (listed, wanted, case))
        self.assertGreater(tried, 15)

    def test_each_blocked_set_of_up_to_two_pairs(self):
        tried = {True: 0, False: 0}
        for listed, wanted in some_wanted(86, 120, 3, 6) + [(TWO, STUCK), (TWO, ("cases", (((1,), 3),)))]:
            for value in blocked_values(listed):
                expected = good_certificate(listed, wanted, value)
                tried[expected] += 1
                self.same(accepts(listed, wanted, value), expected, (listed, wanted, value))
        self.assertGreater(min(tried.values()), 30)

    def test_a_row_is_accepted_exactly_if_nothing_else_is(self):
        for listed, wanted in some_wanted(87, 60, 2, 6):
            rows = [row for row in all_rows(listed) if accepts(listed, wanted, ("row", row))]
            others = [value for value in blocked_values(listed) if accepts(listed, wanted, value)]
            others += [case for case in all_cases(listed[0]) if accepts(listed, wanted, ("loose", case))]
            self.same(bool(rows), not others, (listed, wanted))

    def test_other_accepted_ones_than_the_told_one(self):
        wanted = ("cases", (((1,), 3), ((2,), 3)))
        self.same(certificate(TWO, wanted), ("blocked", ((0, (1,)), (1, (1,)))))
        for pairs in (((0, (2,)), (1, (1,))), ((0, (2,)), (1, (2,))), ((0, (1,)), (1, (2,)))):
            self.same(accepts(TWO, wanted, ("blocked", pairs)), True)
        # A blocked set beside a loose case, and a smaller one than the told one.
        listed = ((8,), ((1, ((0, 1),)), (2, ((3, 4),))), 0)
        both = ("cases", (((0,), 3), ((4,), 1), ((7,), 5)))
        for value in (("loose", (7,)), ("blocked", ((0, (0,)),)), ("blocked", ((1, (4,)),))):
            self.same(accepts(listed, both, value), True)
        self.same(accepts(listed, both, ("blocked", ((0, (0,)), (1, (4,))))), True)

    def test_pairs_that_block_nothing(self):
        for pairs in (
            (), (STUCK_PAIRS[0],), (STUCK_PAIRS[1],), STUCK_PAIRS[::-1], STUCK_PAIRS * 2, (STUCK_PAIRS[0],) * 2,
            STUCK_PAIRS + STUCK_PAIRS[1:], STUCK_PAIRS[:1] + STUCK_PAIRS, ((0, (1,)), (1, (1,))), ((0, (2,)), (1, (2,))),
            ((0, (0,)), (1, (1,))), ((0, (2,)), (1, (3,))), ((0, (3,)), (1, (1,))), ((0, (2,)), (1, (0,))),
            STUCK_PAIRS + ((2, (1,)),), ((-1, (2,)),) + STUCK_PAIRS,
        ):
            self.same(accepts(TWO, STUCK, ("blocked", pairs)), False, pairs)
        # A further rule that matches the case, too, and stands in no pair.
        listed = ((8,), ((1, ((0, 4),)), (2, ((0, 5),)), (3, ((0, 1),))), 0)
        wanted = ("cases", (((0,), 3), ((2,), 2), ((3,), 1)))
        self.same(accepts(listed, wanted, ("blocked", ((0, (2,)), (1, (3,))))), True)
        self.same(accepts(listed, wanted, ("blocked", ((0, (0,)), (1, (3,))))), False)
        self.same(accepts(listed, wanted, ("blocked", ((0, (2,)), (1, (0,))))), False)

    def test_values_of_other_kinds(self):
        bad = [value for value in ODD_VALUES + NOT_ROWS]
        bad += ["row", "blocked", "loose", ("row",), ("blocked",), ("loose",), (0, 1), (1, 0), STUCK_PAIRS]
        for wanted in SOME_WANTED:
            for value in bad:
                self.same(accepts(LISTED, wanted, value), False, value)
                for word in ("row", "blocked", "loose"):
                    content = value if value not in all_cases((4, 3)) else None
                    self.same(accepts(LISTED, wanted, (word, content)), False, value)

    def test_near_misses(self):
        good = (
            (TWO, SWAPPED, ("row", (1, 0))), (TWO, STUCK, ("blocked", STUCK_PAIRS)), (NO_RULES, LOOSE, ("loose", (2,))),
        )
        for listed, wanted, value in good:
            word, content = value
            self.same(accepts(listed, wanted, value), True)
            for other in (
                [word, content], (word, list(content)), (word, content, ()), (word, (content,)), (content, word),
                (word.upper(), content), (None, content), (0, content), ("", content), (word,), (word, *content),
                (word, None), ((word,), content), (word, content + (0,)), (word, content[:-1]),
            ):
                self.same(accepts(listed, wanted, other), False, other)
            for another in ("row", "blocked", "loose"):
                self.same(accepts(listed, wanted, (another, content)), another == word)
        self.same(accepts(TWO, SWAPPED, ("row", (0, 1))), False)
        self.same(accepts(TWO, SWAPPED, ("row", (True, False))), False)
        self.same(accepts(TWO, SWAPPED, ("row", (1, False))), False)
        self.same(accepts(NO_RULES, LOOSE, ("loose", (True,))), False)
        self.same(accepts(NO_RULES, ("cases", (((1,), 4),)), ("loose", (1,))), True)
        self.same(accepts(NO_RULES, ("cases", (((1,), 4),)), ("loose", (True,))), False)
        self.same(accepts(NO_RULES, LOOSE, ("loose", (0,))), False)
        self.same(accepts(NO_RULES, LOOSE, ("loose", (1,))), False)
        self.same(accepts(NO_RULES, LOOSE, ("loose", (4,))), False)
        for pairs in (
            ((False, (2,)), (True, (1,))), ((0, (2,)), (1, (True,))), ((0, [2]), (1, (1,))), ([0, (2,)], (1, (1,))),
            ((0, (2,)), (1,)), ((0, (2,)), (1, (1,), 0)), ((0, (2,)), None), ((0, (2,)), 1), ((0, 2), (1, 1)),
            (((2,), 0), ((1,), 1)), ((0, (2, 0)), (1, (1, 0))), ((0, ()), (1, ())), ((0, (2,)), (1, (4,))),
            ((0, (2,)), (1, (-1,))), (("0", (2,)), ("1", (1,))), ((0, ("2",)), (1, ("1",))), ((None, (2,)), (1, (1,))),
        ):
            self.same(accepts(TWO, STUCK, ("blocked", pairs)), False, pairs)

    def test_changed_certificates(self):
        rng = random.Random(88)
        tried = {True: 0, False: 0}
        for listed, wanted in some_wanted(89, 200, 5):
            value = certificate(listed, wanted)
            for other in changed_values(rng, value, 12):
                got = accepts(listed, wanted, other)
                tried[got] += 1
                self.assertIn(kinds(got), (kinds(True), kinds(False)))
                if got:
                    # Whoever wrote it, it is so.
                    self.assertEqual(kinds(other)[0], "tuple")
                    self.same(other[0] == "row", value[0] == "row", (listed, wanted, other))
                    self.same(good_certificate(listed, wanted, other), True, (listed, wanted, other))
        self.assertGreater(min(tried.values()), 20)

    def test_very_deep_values(self):
        down = deep()
        for value in (down, (down, down), ("row", down), ("row", (down, 0)), ("blocked", down), ("blocked", (down,))):
            self.assertTrue(accepts(TWO, STUCK, value) is False)
        for value in (("blocked", ((0, down), (1, down))), ("blocked", ((down, (2,)),)), ("loose", down), (down, (0, 1))):
            self.assertTrue(accepts(TWO, STUCK, value) is False)
        self.assertTrue(accepts(TWO, STUCK, ("loose", (down,))) is False)

    def test_no_rules(self):
        self.same(accepts(NO_RULES, ("self",), ("row", ())), True)
        self.same(accepts(NO_RULES, LOOSE, ("row", ())), False)
        self.same(accepts(NO_RULES, LOOSE, ("blocked", ())), False)
        self.same(accepts(NO_RULES, ("self",), ("blocked", ())), False)
        self.same(accepts(NO_RULES, ("list", ((4,), (), 3)), ("loose", (3,))), True)
        self.same(accepts(NO_RULES, ("list", NO_RULES), ("loose", (3,))), False)


class AllTest(RowsTest):

    def test_functions_are_defined_in_their_file(self):
        for name in ("certificate", "accepts"):
            self.assertEqual(getattr(certificates_file, name).__module__, "rulerows.certificates")

    def test_twelve_pairs_and_thirteen(self):
        listed = ((8, 8), ((2, ((2, 2), (3, 3))), (1, ((0, 7), (0, 7)))), 0)
        twelve, thirteen = ("cases", WIDE_TWELVE), ("cases", WIDE_THIRTEEN)
        self.same(certificate(listed, twelve), ("row", (1, 0)))
        self.same(accepts(listed, twelve, ("row", (1, 0))), True)
        self.same(accepts(listed, twelve, ("row", (0, 1))), False)
        self.bad("wanted", certificate, listed, thirteen)
        self.bad("wanted", accepts, listed, thirteen, ("row", (1, 0)))

    def test_example_of_point_49(self):
        self.same(certificate(TWO, ("self",)), ("row", (0, 1)))

    def test_examples_of_the_interface(self):
        self.check_examples("""
>>> from rulerows.certificates import accepts, certificate
>>> from rulerows.ready import can_come_first, first_row, placed_without, ready, row_beginning
>>> two = ((4,), ((1, ((0, 2),)), (2, ((1, 3),))), 0)
>>> ready(two, ("self",), ()), ready(two, ("self",), (0,)), first_row(two, ("self",))
((0,), (1,), (0, 1))
>>> certificate(two, ("cases", (((0,), 1), ((1,), 2), ((3,), 2)))), row_beginning(two, ("self",), (1,)) is None
(('row', (1, 0)), True)
>>> certificate(two, ("cases", (((1,), 1), ((2,), 2))))
('blocked', ((0, (2,)), (1, (1,))))
>>> accepts(two, ("cases", (((1,), 1), ((2,), 2))), ("blocked", ((0, (2,)), (1, (1,)))))
True
>>> certificate(two, ("cases", (((1,), 3),))), certificate(((4,), (), 0), ("cases", (((2,), 1),)))
(('blocked', ((0, (1,)), (1, (1,)))), ('loose', (2,)))
>>> placed_without(two, ("self",), 0), can_come_first(two, ("self",), (1,))
((), False)
""")


if __name__ == "__main__":
    unittest.main()
