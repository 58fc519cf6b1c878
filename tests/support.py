"""What the tests share: a strict comparison, wrong values, and lists to try."""

import doctest
import itertools
import random
import unittest

from rulerows.errors import BadValue, NotPossible, RowError, TextError, TooLarge


def kinds(value):
    """The value with the kind of each part, so that 1 and True, () and [] differ."""
    if isinstance(value, (tuple, list)):
        return (type(value).__name__, [kinds(item) for item in value])
    return (type(value).__name__, value)


class RowsTest(unittest.TestCase):

    def same(self, got, expected, told=None):
        self.assertEqual(got, expected, told)
        self.assertEqual(kinds(got), kinds(expected), told)

    def bad(self, name, function, *arguments):
        """The call raises BadValue with this name, and no other class of ours."""
        try:
            got = function(*arguments)
        except RowError as error:
            self.assertIs(type(error), BadValue)
            self.assertEqual(kinds(error.name), kinds(name), (function.__name__, arguments))
        else:
            self.fail(f"{function.__name__}{short(arguments)} returned {short(got)}, not BadValue({name!r})")

    def not_possible(self, why, function, *arguments):
        """The call raises NotPossible with this word, and no other class of ours."""
        try:
            got = function(*arguments)
        except RowError as error:
            self.assertIs(type(error), NotPossible, (function.__name__, arguments))
            self.assertEqual(kinds(error.why), kinds(why), (function.__name__, arguments))
        else:
            self.fail(f"{function.__name__}{short(arguments)} returned {short(got)}, not NotPossible({why!r})")

    def too_large(self, what, function, *arguments):
        """The call raises TooLarge with this word, and no other class of ours."""
        try:
            got = function(*arguments)
        except RowError as error:
            self.assertIs(type(error), TooLarge, (function.__name__, arguments))
            self.assertEqual(kinds(error.what), kinds(what), (function.__name__, arguments))
        else:
            self.fail(f"{function.__name__}{short(arguments)} returned {short(got)}, not TooLarge({what!r})")

    def problem(self, column, words, function, *arguments):
        """The call raises TextError with this column and these words, and no other class of ours."""
        try:
            got = function(*arguments)
        except RowError as error:
            self.assertIs(type(error), TextError, (function.__name__, arguments))
            told = (error.column, error.words)
            self.assertEqual(kinds(told), kinds((column, words)), (function.__name__, arguments))
        else:
            self.fail(f"{function.__name__}{short(arguments)} returned {short(got)}, no TextError at {column}")

    def check_new_list(self, function, *arguments):
        """The function returns a new list each time."""
        first = function(*arguments)
        self.assertIs(type(first), list)
        kept = list(first)
        first.append("changed")
        self.same(function(*arguments), kept)
        self.assertIsNot(function(*arguments), function(*arguments))

    def check_arguments(self, function, *parameters):
        """Each parameter is told by its name, a good value and all wrong ones.

        Each wrong value comes alone, and with wrong values in all places behind it.
        """
        for at, (name, _, wrong_ones) in enumerate(parameters):
            ahead = [good for _, good, _ in parameters[:at]]
            behind = [good for _, good, _ in parameters[at + 1:]]
            for number, wrong in enumerate(wrong_ones):
                self.bad(name, function, *ahead, wrong, *behind)
                wrong_behind = [
                    others[number % len(others)] if others else None for _, _, others in parameters[at + 1:]
                ]
                self.bad(name, function, *ahead, wrong, *wrong_behind)

    def check_examples(self, text):
        test = doctest.DocTestParser().get_doctest(text, {}, "examples", None, 0)
        said = []
        result = doctest.DocTestRunner(verbose=False).run(test, out=said.append)
        self.assertEqual(result.failed, 0, "".join(said))
        self.assertGreater(result.attempted, 0)


def short(value):
    """How the value looks, cut off; a very deep value has no look at all."""
    try:
        return repr(value)[:300]
    except RecursionError:
        return "(a deep value)"


def deep(levels=100000):
    """A tuple that is nested very deep."""
    value = ()
    for _ in range(levels):
        value = (value,)
    return value


# The list of point 18, with three rules so that most tuples of numbers are no rows.
LISTED = ((4, 3), ((1, ((0, 1), (0, 2))), (2, ((1, 3), (1, 2))), (1, ((2, 2), (0, 1)))), 0)

ODD_VALUES = (
    None, True, False, 0, 1, -1, 7, 10 ** 30, "", "0", "list", (), [], ((),), [()], (None,), (True,),
    ("self",), ["self"], ((4,), (), 0, 0), [(4,), (), 0], (((),),), ("by", 0), ("cut", 0, 1),
)

RULE = (1, ((0, 1), (0, 2)))
LAST_RULE = (2, ((1, 3), (1, 2)))


def with_rule(rule):
    """The list with this rule behind a right one and ahead of a right one."""
    return ((4, 3), (RULE, rule, LAST_RULE), 0)


def with_ends(low, high, in_last=True):
    """The list with these ends of the range of one field."""
    if in_last:
        return with_rule((1, ((0, 1), (low, high))))
    return with_rule((1, ((low, high), (0, 1))))


NOT_LISTS = tuple([value for value in ODD_VALUES]) + (
    # Not three items, or a list instead of a tuple.
    ((4, 3), (RULE,)), ((4, 3), (RULE,), 0, 0), [(4, 3), (RULE,), 0], ((4, 3),), "ab0", (4, (), 0), (0, 0, 0),
    # Widths.
    ((), (), 0), ((4, 4, 4, 4), (), 0), ([4, 3], (RULE,), 0), ((0,), (), 0), ((9,), (), 0), ((4, 0), (), 0),
    ((4, 9), (), 0), ((4, 3, 9), (), 0), ((-1,), (), 0), ((True,), (), 0), ((4, True), (), 0), ((None,), (), 0),
    (("4",), (), 0), (((4,),), (), 0), (4, (), 0), ("4", (), 0), (None, (), 0), ((8, 8, 8, 1), (), 0),
    # Rules that are no tuple of rules, or too many.
    ((4, 3), [RULE], 0), ((4, 3), [], 0), ((4, 3), None, 0), ((4, 3), 0, 0), ((4, 3), "", 0), ((4, 3), RULE, 0),
    ((4, 3), (RULE,) * 8, 0), ((4, 3), (RULE,) * 9, 0), ((4, 3), "abc", 0), ((4, 3), False, 0),
    # Rules of a wrong form.
    with_rule(None), with_rule(()), with_rule((1,)), with_rule(list(RULE)), with_rule((*RULE, 0)), with_rule("ab"),
    with_rule(((0, 1), (0, 2))), with_rule(1), with_rule(((0, 1), (0, 2), 1)),
    # Actions of rules.
    with_rule((6, RULE[1])), with_rule((-1, RULE[1])), with_rule((True, RULE[1])), with_rule((False, RULE[1])),
    with_rule((None, RULE[1])), with_rule(("1", RULE[1])), with_rule(((1,), RULE[1])), with_rule((7, RULE[1])),
    # Ranges.
    with_rule((1, list(RULE[1]))), with_rule((1, ((0, 1),))), with_rule((1, ((0, 1), (0, 2), (0, 0)))),
    with_rule((1, ())), with_rule((1, None)), with_rule((1, ((0, 1), [0, 2]))), with_rule((1, ([0, 1], (0, 2)))),
    with_rule((1, ((0, 1), None))), with_rule((1, ((0, 1), (0,)))), with_rule((1, ((0, 1), (0, 1, 2)))),
    with_rule((1, ((0, 1), ()))), with_rule((1, ((0, 1), 0))), with_rule((1, "ab")), with_rule((1, (0, 1))),
    with_ends(2, 1), with_ends(1, 0), with_ends(-1, 1), with_ends(0, 3), with_ends(3, 3), with_ends(-2, -1),
    with_ends(True, 2), with_ends(0, True), with_ends(False, 2), with_ends(False, False), with_ends(True, True),
    with_ends(None, 2), with_ends(0, None), with_ends("0", "1"), with_ends((0,), (1,)),
    with_ends(3, 2, False), with_ends(-1, 3, False), with_ends(0, 4, False), with_ends(4, 4, False),
    with_ends(True, 2, False), with_ends(0, True, False), with_ends(0, None, False),
    ((1,), ((1, ((0, 1),)),), 0), ((8,), ((1, ((0, 8),)),), 0), ((8, 8), ((1, ((0, 7), (0, 8))),), 0),
    # A wrong rule in the first and in the last place.
    ((4, 3), ((6, RULE[1]), RULE), 0), ((4, 3), (RULE,) * 6 + ((6, RULE[1]),), 0),
    # The rest.
    ((4, 3), (RULE,), 6), ((4, 3), (RULE,), -1), ((4, 3), (RULE,), True), ((4, 3), (RULE,), False),
    ((4, 3), (RULE,), None), ((4, 3), (RULE,), "0"), ((4, 3), (RULE,), (0,)), ((4, 3), (), 6), ((4, 3), (), False),
)

# All of these are wrong for LISTED.
NOT_NUMBERS = (3, -1, 4, 7, 10 ** 30, True, False, None, "0", "", (), (0,), [0], [])
NOT_ROWS = (
    (), (0,), (0, 1), (0, 1, 2, 2), (0, 1, 2, 3), (0, 1, 1), (0, 0, 0), (0, 1, 3), (1, 2, 3), (-1, 0, 1), (0, 1, -1),
    [0, 1, 2], [], (0, True, 2), (False, 1, 2), (0, 1, None), (0, 1, "2"), ("0", "1", "2"), (0, 1, (2,)), (0, 1, [2]),
    "012", 0, 3, 12, None, True, False, ((0, 1, 2),), (0, 2, 1, 0), (2, 1),
)
NOT_CASES = (
    (4, 0), (0, 3), (-1, 0), (0, -1), (0,), (0, 0, 0), (), [0, 0], [], (True, 0), (0, True), (False, 0), (0, False),
    (None, 0), (0, None), ("0", 0), (0, "0"), "00", 0, None, True, ((0,), 0), (0, [0]), ((0, 0),), (7, 7), (3, 3),
)


def all_cases(widths):
    return list(itertools.product(*[range(width) for width in widths]))


def all_rows(listed):
    return list(itertools.permutations(range(len(listed[1]))))


def all_sets(listed):
    numbers = range(len(listed[1]))
    return [chosen for many in range(len(numbers) + 1) for chosen in itertools.combinations(numbers, many)]


def matching(listed, case):
    """All rules that match the case, as the document says it, value for value."""
    found = []
    for number, (_, ranges) in enumerate(listed[1]):
        if [k for k in range(len(case)) if case[k] < ranges[k][0] or case[k] > ranges[k][1]] == []:
            found.append(number)
    return tuple(found)


def deciding(listed, row, case):
    """The number of the decider, or None, and the decision."""
    found = matching(listed, case)
    standing = [number for number in row if number in found]
    if not standing:
        return None, listed[2]
    return standing[0], listed[1][standing[0]][0]


def ascending(listed):
    return tuple(range(len(listed[1])))


def random_rule(rng, widths, actions):
    ranges = []
    for width in widths:
        ends = sorted([rng.randrange(width), rng.randrange(width)])
        ranges.append((0, width - 1) if rng.random() < 0.2 else tuple(ends))
    return (rng.randrange(actions), tuple(ranges))


def random_list(rng, most_rules=7, most_cases=64):
    while True:
        widths = tuple([rng.randint(1, 8) for _ in range(rng.randint(1, 3))])
        if len(all_cases(widths)) <= most_cases:
            break
    actions = rng.choice((2, 3, 6))
    rules = tuple([random_rule(rng, widths, actions) for _ in range(rng.randint(0, most_rules))])
    return (widths, rules, rng.randrange(actions))


def some_lists(seed, many, most_rules=7, most_cases=64):
    rng = random.Random(seed)
    return [random_list(rng, most_rules, most_cases) for _ in range(many)]


EDGE_LISTS = (
    ((1,), (), 0),
    ((8,), (), 5),
    ((1,), ((0, ((0, 0),)),), 5),
    ((1, 1, 1), ((5, ((0, 0), (0, 0), (0, 0))), (0, ((0, 0), (0, 0), (0, 0)))), 3),
    ((8,), tuple([(number % 6, ((number, number),)) for number in range(7)]), 5),
    ((8, 8), tuple([(number % 3, ((0, number), (number, 7))) for number in range(7)]), 0),
    ((2, 8, 1), ((4, ((1, 1), (0, 7), (0, 0))), (3, ((0, 1), (7, 7), (0, 0)))), 4),
    LISTED,
)
WIDEST = (
    (8, 8, 8),
    ((1, ((0, 7), (0, 3), (2, 5))), (2, ((4, 7), (0, 7), (0, 7))), (1, ((7, 7), (7, 7), (7, 7)))),
    0,
)


# All of these are wrong for LISTED where a set of its rules is asked for.
NOT_SETS = (
    (1, 0), (2, 1), (0, 2, 1), (2, 1, 0), (0, 0), (0, 1, 1), (0, 0, 1), (3,), (-1,), (0, 3), (-1, 0), (0, 1, 2, 3),
    (0, 1, 2, 2), [], [0], [0, 1], None, True, False, 0, 1, "", "0", "01", (True,), (False,), (0, True), (False, 1),
    (None,), ("0",), ((0,),), ((),), (0, None), (0, "1"), (0, (1,)), ([0],), (0, 10 ** 30),
)
NOT_BEGINNINGS = (
    (0, 0), (1, 0, 1), (2, 2, 2), (0, 1, 2, 0), (3,), (-1,), (2, 3), (0, -1), [], [0], [0, 1, 2], None, True, False, 0,
    1, "", "0", (True,), (False,), (0, True), (True, 0), (None,), ("0",), ((0,),), ((),), (1, None), ([0],), (0, 1, 2, 3),
)
SEVEN = tuple([((number // 3, number % 3), number % 6) for number in range(7)])
TWELVE = tuple([((number // 3, number % 3), number % 6) for number in range(12)])
WIDE = ((8, 8), (), 0)
WIDE_TWELVE = tuple([((1, number), 1) for number in range(8)]) + tuple([((2, number), 1) for number in range(4)])
WIDE_THIRTEEN = WIDE_TWELVE + (((2, 4), 1),)


def one_pair(pair):
    """Pairs with this one in the middle."""
    return ("cases", (((0, 0), 1), pair, ((3, 2), 1)))


NOT_WANTED = tuple([value for value in ODD_VALUES if value != ("self",)]) + (
    ("self", None), ("self", ()), ("self", LISTED), ("Self",), ("",), "self", "list", "cases", ["self"], (("self",),),
    ("list",), ("cases",), ("list", LISTED, 0), ("cases", (), ()), ["list", LISTED], ["cases", ()], ("other", ()),
    ("other", LISTED), (None, ()), (0, LISTED), ((), ()), (LISTED, "list"), LISTED, ((), "cases"), ("case", ()),
    ("list", ()), ("list", None), ("list", list(LISTED)), ("list", ("self",)), ("list", ((4, 3), (RULE,), 6)),
    ("list", ((4, 3), (RULE,), False)), ("list", ((4, 3), (RULE,) * 8, 0)), ("list", with_rule((6, RULE[1]))),
    ("list", ((4,), (), 0)), ("list", ((3, 4), (), 0)), ("list", ((4, 3, 1), (), 0)), ("list", ((4, 4), (), 0)),
    ("list", ((4, 2), (), 0)), ("list", ("list", LISTED)), ("cases", LISTED), ("self", ("self",)),
    ("cases", []), ("cases", None), ("cases", 0), ("cases", ""), ("cases", True), ("cases", list(SEVEN)),
    ("cases", ((0, 0), 1)), ("cases", ((0, 0),)), ("cases", (0,)), ("cases", ((),)), ("cases", (None,)),
    one_pair(None), one_pair(()), one_pair(((1, 1),)), one_pair(((1, 1), 1, 1)), one_pair([(1, 1), 1]), one_pair((1, (1, 1))),
    one_pair(((1, 1), 6)), one_pair(((1, 1), -1)), one_pair(((1, 1), True)), one_pair(((1, 1), False)),
    one_pair(((1, 1), None)), one_pair(((1, 1), "1")), one_pair(((1, 1), (1,))), one_pair("ab"),
    # Twice the same case, and cases that do not ascend.
    one_pair(((0, 0), 1)), one_pair(((0, 0), 2)), one_pair(((3, 2), 0)), ("cases", (((1, 1), 2), ((1, 1), 1))),
    ("cases", (((1, 0), 1), ((0, 2), 2))), ("cases", (((1, 2), 1), ((1, 1), 2))), ("cases", SEVEN[::-1]),
    ("cases", SEVEN[1:] + SEVEN[:1]), ("cases", SEVEN + SEVEN[-1:]), ("cases", TWELVE + TWELVE[-1:]),
) + tuple([one_pair((case, 1)) for case in NOT_CASES if case != (3, 3)])
SOME_WANTED = (("self",), ("list", ((4, 3), (RULE,), 2)), ("cases", TWELVE), ("cases", ()))


def fitting(listed, chosen, avoided):
    found = []
    for case in all_cases(listed[0]):
        standing = matching(listed, case)
        if set(chosen) <= set(standing) and not set(avoided) & set(standing):
            found.append(case)
    return found


def wanted_actions(listed, wanted):
    """The wanted actions by their cases, ascending."""
    if wanted[0] == "cases":
        return dict(wanted[1])
    told = listed if wanted[0] == "self" else wanted[1]
    return {case: deciding(told, ascending(told), case)[1] for case in all_cases(told[0])}


def wrong_cases(listed, wanted, row):
    told = wanted_actions(listed, wanted)
    return [case for case, action in told.items() if deciding(listed, row, case)[1] != action]


def unmet_cases(listed, wanted):
    told = wanted_actions(listed, wanted)
    return [case for case, action in told.items() if matching(listed, case) == () and action != listed[2]]


def right_rows(listed, wanted):
    """All right rows, in ascending order, found by looking at each wanted case in each row."""
    told = [(matching(listed, case), action) for case, action in wanted_actions(listed, wanted).items()]
    found = []
    for row in all_rows(listed):
        for standing, action in dict.fromkeys(told):
            first = [number for number in row if number in standing][:1]
            if (listed[1][first[0]][0] if first else listed[2]) != action:
                break
        else:
            found.append(row)
    return found


def ready_after(listed, wanted, chosen):
    """The ready rules, case by case as point 39 says it."""
    found = []
    for number, (action, _) in enumerate(listed[1]):
        if number not in chosen:
            stopped = False
            for case, wanted_one in wanted_actions(listed, wanted).items():
                standing = matching(listed, case)
                if number in standing and not set(standing) & set(chosen) and wanted_one != action:
                    stopped = True
            if not stopped:
                found.append(number)
    return tuple(found)


def random_wanted(rng, listed, kind):
    widths = listed[0]
    cases = all_cases(widths)
    if kind == "self":
        return ("self",)
    if kind == "row":
        # The decisions of another sequence of the rules, so that there is a right row.
        rules = list(listed[1])
        rng.shuffle(rules)
        return ("list", (widths, tuple(rules), listed[2]))
    if kind == "list":
        rules = tuple([random_rule(rng, widths, 3) for _ in range(rng.randint(0, 7))])
        return ("list", (widths, rules, rng.choice((listed[2], listed[2], rng.randrange(6)))))
    chosen = sorted(rng.sample(cases, min(len(cases), rng.randint(0, 12))))
    if kind == "some":
        row = list(ascending(listed))
        rng.shuffle(row)
        return ("cases", tuple([(case, deciding(listed, row, case)[1]) for case in chosen]))
    chosen = chosen[:3]
    return ("cases", tuple([(case, rng.choice([action for action, _ in listed[1]] + [listed[2]])) for case in chosen]))


WANTED_KINDS = ("self", "row", "list", "some", "any")


def some_wanted(seed, many, most_rules=4, most_cases=32):
    """Pairs of a list and something wanted of it, of all kinds."""
    rng = random.Random(seed)
    found = []
    for number in range(many):
        listed = random_list(rng, most_rules, most_cases)
        found.append((listed, random_wanted(rng, listed, WANTED_KINDS[number % len(WANTED_KINDS)])))
    return found


# All of these are wrong for LISTED where a position of a swap, or a tuple of these, is asked for.
NOT_POSITIONS = (2, 3, -1, 7, 10 ** 30, True, False, None, "0", "", (), (0,), [0], [])
NOT_WALKS = (
    (2,), (3,), (-1,), (0, 2), (2, 0), (0, -1), (True,), (False,), (0, True), (False, 1), (None,), (0, None), ("0",),
    ("0", "1"), ((0,),), ((),), ([0],), (0, (1,)), [], [0], [0, 1], None, True, False, 0, 1, "", "0", "01",
    (0,) * 61, (0, 1) * 31, (1,) * 62, (0,) * 60 + (2,), (2,) + (0,) * 60, (0,) * 1000, ((0,) * 60,), (10 ** 30,),
)
TWO = ((4,), ((1, ((0, 2),)), (2, ((1, 3),))), 0)
# The list of point 61.
SOME = ((8,), ((1, ((0, 3),)), (1, ((2, 6),)), (2, ((2, 3),))), 0)
# The list of point 82, and the one case that is wanted there.
THREE = ((8,), ((1, ((0, 3),)), (2, ((2, 5),)), (1, ((5, 7),))), 0)
ONLY_TWO = ("cases", (((2,), 1),))
# All rules can be placed, but one wanted case is loose.
LOOSE_LIST = ((4,), ((1, ((0, 1),)), (2, ((1, 2),))), 0)
LOOSE = ("cases", (((0,), 1), ((3,), 5)))
NO_RULES = ((4,), (), 0)
ONE_RULE = ((4,), ((1, ((0, 1),)),), 0)
# Seven rules of which all rows are right, and seven of which only one is.
SEVEN_FREE = ((8,), tuple([(number % 3, ((number, number),)) for number in range(7)]), 0)
SEVEN_CHAINED = ((8,), tuple([(number % 2, ((number, number + 1),)) for number in range(7)]), 2)


def goals_with_rows(seed, many, most_rules=4, most_cases=32):
    """Triples of a list, something wanted of it, and its right rows, at least one."""
    found = []
    for listed, wanted in some_wanted(seed, many, most_rules, most_cases):
        rows = right_rows(listed, wanted)
        if rows:
            found.append((listed, wanted, rows))
    return found


def crowded_goals(seed, many):
    """Triples as above, of lists in which each case is matched by several of the rules."""
    rng = random.Random(seed)
    found = []
    while len(found) < many:
        widths = (rng.choice((4, 6, 8)),)
        listed = (widths, tuple([random_rule(rng, widths, 2) for _ in range(5)]), 0)
        wanted = random_wanted(rng, listed, "some")
        rows = right_rows(listed, wanted)
        if rows:
            found.append((listed, wanted, rows))
    return found


def goals_without_rows(seed, many, most_rules=4, most_cases=32):
    """Pairs of a list and something wanted of it for which no row is right."""
    return [pair for pair in some_wanted(seed, many, most_rules, most_cases) if not right_rows(*pair)]


def apart(row, other):
    """The distance of two rows, as point 52 says it."""
    found = 0
    for one, another in itertools.combinations(sorted(row), 2):
        in_row = row.index(one) < row.index(another)
        in_other = other.index(one) < other.index(another)
        found += in_row != in_other
    return found


def exchange(row, position):
    changed = list(row)
    changed[position], changed[position + 1] = changed[position + 1], changed[position]
    return tuple(changed)


def coming_first(listed, wanted):
    """All sets that can come first, those with fewer rules first, found by placing each ready rule."""
    found = {()}
    for _ in listed[1]:
        for chosen in list(found):
            for number in ready_after(listed, wanted, chosen):
                found.add(tuple(sorted((*chosen, number))))
    return sorted(found, key=lambda chosen: (len(chosen), chosen))


def changed_values(rng, value, many):
    """Values that differ from this one in one place: another item, one more, one less, another kind."""
    found = []
    for _ in range(many):
        found.append(changed_value(rng, value))
    return found


def changed_value(rng, value):
    if isinstance(value, tuple) and value and rng.random() < 0.8:
        at = rng.randrange(len(value))
        way = rng.randrange(8)
        if way == 0:
            return value[:at] + value[at + 1:]
        if way == 1:
            return value[:at] + (value[at],) + value[at:]
        if way == 2:
            return value[::-1]
        return value[:at] + (changed_value(rng, value[at]),) + value[at + 1:]
    if isinstance(value, tuple):
        return rng.choice((list(value), (*value, 0), (value,), None))
    if isinstance(value, bool) or not isinstance(value, int):
        return rng.choice((None, "", 0, "row", "loose", "blocked", "always", "not"))
    return rng.choice((value + 1, value - 1, value + 2, bool(value % 2), str(value), None, (value,), rng.randrange(8)))


# All of these are wrong for LISTED where weights are asked for.
WEIGHTS = (((3, 2), 1000), ((0, 1), 0), ((0, 1), 7))
NOT_WEIGHTS = tuple([value for value in ODD_VALUES if value != ()]) + (
    list(WEIGHTS), [], ((0, 1), 7), (((0, 1),),), (((0, 1), 7, 7),), ([(0, 1), 7],), ((7, (0, 1)),), ("ab",), (7,), (None,),
    (((0, 1), 1001),), (((0, 1), 1002),), (((0, 1), -1),), (((0, 1), True),), (((0, 1), False),), (((0, 1), None),),
    (((0, 1), "7"),), (((0, 1), (7,)),), (((0, 1), 10 ** 30),), (((0, 1), 7),) * 13, (((0, 1), 7),) * 14,
    WEIGHTS + (((4, 0), 1),), (((0, 3), 1),) + WEIGHTS, WEIGHTS + (((0, 1), 1001),), (((0, 1), 1001),) + WEIGHTS,
    WEIGHTS + (None,), WEIGHTS + ([(0, 1), 7],), WEIGHTS[:1] + (((0, True), 1),) + WEIGHTS[1:],
    (((0, 1), 7),) * 11 + (((0, 1), -1),),
) + tuple([((case, 1),) for case in NOT_CASES if case != (3, 3)]) + tuple([((case, 0),) for case in ((4, 0), (0, 3))])
# All of these are wrong for LISTED where indexes, or numbers of rows, are asked for.
NOT_INDEXES = (-1, -2, 10 ** 30, True, False, None, "0", "", (), (0,), [0], [])


def compared(listed, row, case):
    """How many rules of the row are compared with the case."""
    many = 0
    for number in row:
        many += 1
        if number in matching(listed, case):
            break
    return many


def costing(listed, weights, row):
    """The cost of the row by the words of point 83."""
    return sum(weight * compared(listed, row, case) for case, weight in weights)


def random_weights(rng, listed, many=None):
    cases = all_cases(listed[0])
    if many is None:
        many = rng.randint(0, 12)
    small = rng.random() < 0.5
    return tuple([(rng.choice(cases), rng.randint(0, 3) if small else rng.choice((0, 1, 999, 1000))) for _ in range(many)])


# All of these are wrong where a text is asked for.
NOT_TEXTS = (
    " " * 401, "4" * 401, "*" * 402, "?" * 1000, "\n", "4: else 0\n", "\n4: else 0", "4:\nelse 0", "4: else\r\n0",
    " " * 399 + "\n", " " * 400 + "\n", None, True, False, 0, 4, -1, 10 ** 30, (), [], ("4",), ["4"], ((),),
    ("4", ":", "else", "0"), LISTED, ("self",),
)
