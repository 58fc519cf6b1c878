"""The whole program: points 2, 3 and 8, the names of the interface, and the README."""

import ast
import copy
import doctest
import importlib
import inspect
import pathlib
import random
import unittest

from rulerows import errors
from rulerows.book import Book
from tests.support import LISTED, RowsTest, kinds, random_wanted, right_rows, some_lists

FOLDER = pathlib.Path(__file__).resolve().parent.parent
FILES = sorted((FOLDER / "rulerows").glob("*.py"))
FUNCTIONS = {
    "lists": (
        "is_list(value)", "matches(listed, number, case)", "decision(listed, row, case)",
        "decider(listed, row, case)", "shares(listed, row)", "first_difference(listed, first, second)",
        "regions(listed)",
    ),
    "made": (
        "without(listed, number)", "put_in_row(listed, row)", "other_case(first, second)",
    ),
    "cases": (
        "count_cases(listed, chosen, avoided)", "nth_case(listed, chosen, avoided, index)",
        "index_of_case(listed, chosen, avoided, case)",
    ),
    "covers": (
        "covers(listed, chosen, number)", "first_shown(listed, chosen, number)",
        "shows_uncovered(listed, chosen, number, value)", "cover_tree(listed, chosen, number)",
        "accepts_tree(listed, chosen, number, value)",
    ),
    "wanted": (
        "is_wanted(listed, value)", "wanted_action(listed, wanted, case)", "first_unmet(listed, wanted)",
        "first_wrong(listed, wanted, row)", "is_right(listed, wanted, row)", "regions(listed, wanted)",
        "mean_the_same(listed, one, other)", "telling_row(listed, one, other)", "tells(listed, one, other, value)",
    ),
    "ready": (
        "ready(listed, wanted, chosen)", "can_come_first(listed, wanted, chosen)", "first_row(listed, wanted)",
        "row_beginning(listed, wanted, rules)", "placed_without(listed, wanted, number)",
    ),
    "certificates": (
        "certificate(listed, wanted)", "accepts(listed, wanted, value)",
    ),
    "swaps": (
        "distance(listed, row, other)", "safe_swaps(listed, wanted, row)", "shown_by(listed, wanted, row, position)",
        "applied(listed, wanted, row, positions)", "nearest(listed, wanted, row, number, place)",
    ),
    "paths": (
        "path(listed, wanted, row, other)", "accepts_path(listed, wanted, row, other, value)",
        "is_only(listed, wanted, row)", "only_evidence(listed, wanted, row)",
        "accepts_only(listed, wanted, row, value)",
    ),
    "before": (
        "always_before(listed, wanted)", "relation(listed, wanted, first, second)", "places(listed, wanted, number)",
        "needed_sets(listed, wanted, number)", "choice(listed, wanted)", "ends(listed, wanted)",
        "between(listed, wanted, first, second)",
    ),
    "fences": (
        "before_evidence(listed, wanted, first, second)", "accepts_before(listed, wanted, first, second, value)",
    ),
    "counting": (
        "count_rows(listed, wanted)", "count_beginning(listed, wanted, rules)",
        "count_at(listed, wanted, number, place)", "count_before(listed, wanted, number, other)",
        "sets_first(listed, wanted)",
    ),
    "listing": (
        "nth_row(listed, wanted, index)", "index_of_row(listed, wanted, value)",
        "rows_from(listed, wanted, index, many)",
    ),
    "costs": (
        "cost(listed, weights, row)", "shares(listed, weights, row)", "cheapest_row(listed, wanted, weights)",
        "least_cost(listed, wanted, weights)",
    ),
    "bounds": (
        "told_table(listed, wanted, weights)", "accepts_bound(listed, wanted, weights, bound, value)",
        "accepts_cheapest(listed, wanted, weights, row, value)",
    ),
    "improving": (
        "best_swap(listed, wanted, weights, row)", "improved(listed, wanted, weights, row)",
    ),
    "going": (
        "first_case_against(listed, short)", "is_against(listed, short, value)", "idle(listed)",
        "own_case(listed, number)", "can_go(listed)", "needing_case(listed, number)", "smallest_set(listed)",
        "shortest_row(listed)", "hides(listed, number, chosen)", "shown_case(listed, number, chosen)",
        "smallest_hiding(listed, number)", "merged(listed, number)",
    ),
    "scanning": (
        "scan(text)",
    ),
    "reading": (
        "next_tokens(text, kind)", "read_list(text)", "read_row(listed, text)", "read_case(listed, text)",
    ),
    "writing": (
        "list_text(listed)", "row_text(listed, row)", "case_text(listed, case)",
    ),
    "journals": (
        "replayed(listed, journal)", "are_right(listed, records)",
    ),
}
METHODS = (
    "act(command)", "undo()", "present()", "hits()", "misses()", "is_locked()", "journal()", "decided(case)",
    "change(command)", "changed()", "records()", "twin()",
)
ERRORS = {"BadValue": "name", "TooLarge": "what", "NotPossible": "why", "TextError": "column, words"}


def told_form(name, function, skipped=0):
    """How the interface tells a function: its name and its arguments, without `self`."""
    parameters = list(inspect.signature(function).parameters.values())[skipped:]
    assert all([parameter.kind == parameter.POSITIONAL_OR_KEYWORD for parameter in parameters])
    assert all([parameter.default is parameter.empty for parameter in parameters])
    return name + "(" + ", ".join([parameter.name for parameter in parameters]) + ")"


def defined_in(path):
    """The nodes of what a file defines at its top, by name."""
    tree = ast.parse(path.read_text(encoding="utf-8"))
    return {node.name: node for node in tree.body if isinstance(node, (ast.FunctionDef, ast.ClassDef))}


class InterfaceTest(RowsTest):

    def test_functions_stand_in_their_files_with_their_arguments(self):
        for name, told in FUNCTIONS.items():
            module = importlib.import_module("rulerows." + name)
            defined = defined_in(FOLDER / "rulerows" / f"{name}.py")
            for form in told:
                word = form[:form.index("(")]
                self.same(told_form(word, getattr(module, word)), form, name)
                self.assertIs(type(defined.get(word)), ast.FunctionDef, (name, word))

    def test_the_book_and_its_methods(self):
        defined = defined_in(FOLDER / "rulerows" / "book.py")
        self.assertIs(type(defined.get("Book")), ast.ClassDef)
        self.same(told_form("Book", Book), "Book(listed)")
        methods = [node.name for node in defined["Book"].body if isinstance(node, ast.FunctionDef)]
        for form in METHODS:
            word = form[:form.index("(")]
            self.same(told_form(word, vars(Book)[word], 1), form)
            self.assertIn(word, methods)

    def test_errors(self):
        defined = defined_in(FOLDER / "rulerows" / "errors.py")
        for name, arguments in ERRORS.items():
            self.assertIs(type(defined.get(name)), ast.ClassDef)
            error = getattr(errors, name)
            self.same(told_form(name, error), f"{name}({arguments})")
            self.same([base.__name__ for base in error.__bases__], ["RowError"])
        self.same([base.__name__ for base in errors.RowError.__bases__], ["ValueError"])

    def test_nothing_is_taken_from_outside_and_no_error_but_ours_is_raised(self):
        self.assertGreater(len(FILES), 30)
        for path in FILES:
            for node in ast.walk(ast.parse(path.read_text(encoding="utf-8"))):
                self.assertNotIsInstance(node, ast.Import, path)
                if isinstance(node, ast.ImportFrom):
                    self.assertEqual(node.module.split(".")[0], "rulerows", path)
                if isinstance(node, ast.Raise):
                    self.assertIn(node.exc.func.id, ERRORS, path)


def calls_to_try(listed, wanted, row):
    """Arguments by the names of the interface, all of them good if the row is right."""
    whole = tuple(range(len(listed[1])))
    first = whole[:1]
    case = (0,) * len(listed[0])
    return {
        "listed": listed, "wanted": wanted, "one": wanted, "other": ("self",), "row": row, "case": case, "chosen": (),
        "avoided": first, "rules": row[:1], "short": row[1:], "number": 0, "first": 0, "second": 1, "place": 0,
        "position": 0, "positions": (), "index": 0, "many": 20, "weights": ((case, 3), (case, 1)), "bound": 7,
        "value": row, "text": "4 4: 1 if 0..1 *; 2 if 1..3 1..3; else 0", "kind": "list", "journal": (("lock",),),
        "records": ((("lock",), None),),
    }


# Where a name of an argument means another thing than in most functions.
SPECIAL = {
    ("lists", "first_difference"): {"first": "row", "second": "whole"},
    ("made", "other_case"): {"first": "listed", "second": "listed"},
    ("counting", "count_before"): {"other": "second"},
    ("swaps", "distance"): {"other": "row"},
    ("paths", "path"): {"other": "row"},
    ("paths", "accepts_path"): {"other": "row"},
    ("reading", "read_row"): {"text": "row_text"},
    ("reading", "read_case"): {"text": "case_text"},
}


def call_again(name, word, form, given):
    """What the function returns, or the error that it raises."""
    function = getattr(importlib.import_module("rulerows." + name), word)
    arguments = []
    for parameter in inspect.signature(function).parameters:
        arguments.append(given[SPECIAL.get((name, word), {}).get(parameter, parameter)])
    kept = copy.deepcopy(arguments)
    try:
        got = function(*arguments)
    except errors.RowError as error:
        got = (type(error).__name__, sorted(vars(error).items()))
    assert kinds(arguments) == kinds(kept), (name, word)
    return tell(got) if isinstance(got, Book) else got


def tell(book):
    return (book.present(), book.hits(), book.records())


def is_told_kind(value):
    """True if the value is of the kinds that point 3 tells."""
    if isinstance(value, (tuple, list)):
        return type(value) in (tuple, list) and all([is_told_kind(item) for item in value])
    return value is None or type(value) in (int, str, bool)


class CallsTest(RowsTest):

    def test_the_same_call_returns_the_same_and_changes_nothing(self):
        rng = random.Random(421)
        returned = set()
        for listed in (LISTED,) + tuple(some_lists(422, 25, 5, 48)):
            for wanted in (("self",), random_wanted(rng, listed, "some"), random_wanted(rng, listed, "row")):
                rows = right_rows(listed, wanted)
                given = calls_to_try(listed, wanted, rows[-1])
                given["whole"] = tuple(range(len(listed[1])))
                given["row_text"] = " ".join([str(number) for number in rows[-1]])
                given["case_text"] = " ".join([str(item) for item in given["case"]])
                for name, told in FUNCTIONS.items():
                    for form in told:
                        word = form[:form.index("(")]
                        got = call_again(name, word, form, given)
                        self.assertTrue(is_told_kind(got), (name, word, got))
                        # Whatever is done to a returned list does not matter later.
                        expected = copy.deepcopy(got)
                        if isinstance(got, list):
                            got.append("changed")
                        self.same(call_again(name, word, form, given), expected, (name, word))
                        if type(got) is not tuple or got[:1] == () or got[0] not in ERRORS:
                            returned.add((name, word))
        self.same(len(returned), sum([len(told) for told in FUNCTIONS.values()]))

    def test_readme(self):
        text = (FOLDER / "README.md").read_text(encoding="utf-8").replace("```", "")
        test = doctest.DocTestParser().get_doctest(text, {}, "README", None, 0)
        said = []
        result = doctest.DocTestRunner(verbose=False).run(test, out=said.append)
        self.assertEqual(result.failed, 0, "".join(said))
        self.assertGreater(result.attempted, 20)


if __name__ == "__main__":
    unittest.main()
