"""reading.py: points 105 to 111, 113 and 114."""

import itertools
import random
import unittest

from rulerows import reading as reading_file
from rulerows.reading import next_tokens, read_case, read_list, read_row
from tests.support import (
    EDGE_LISTS, LISTED, NOT_LISTS, NOT_TEXTS, NO_RULES, ODD_VALUES, ONE_RULE, WIDEST, RowsTest,
    all_cases, all_rows, deep, some_lists,
)

LISTED_ARGUMENT = ("listed", LISTED, NOT_LISTS)
NOT_KINDS = ("case", "List", "LIST", "lists", "", " list", "row ", "rows", "end") + tuple(
    [value for value in ODD_VALUES if value != "list"]) + (("list",), ["row"], ("row",))
# Each kind of token by one letter, in the order in which point 108 tells them.
LETTERS = "niecstd$"
WORDS = {"n": "a number", "i": "if", "e": "else", "c": '":"', "s": '";"', "t": '"*"', "d": '".."', "$": "the end"}
CHARACTERS = {"n": "3", "i": "if", "e": "else", "c": ":", "s": ";", "t": "*", "d": ".."}
WIDTH = "a width is from 1 to 8"
FOURTH = "there are at most 3 fields"
EIGHTH = "there are at most 7 rules"
ACTION = "an action is from 0 to 5"
NO_FIELD = "there is no such field"
NO_VALUE = "there is no such value"
ASCENDS = "a range ascends"
NO_FIELDS = "a field is missing"


def some_fields(room):
    """All sequences of fields with at most so many tokens."""
    found = [""]
    for field in ("t", "n", "ndn"):
        if len(field) <= room:
            found.extend([field + behind for behind in some_fields(room - len(field))])
    return found


def some_rules(room):
    """All sequences of rules, each with its sign behind it, with at most so many tokens."""
    found = [""]
    for fields in sorted(set(some_fields(room - 3))):
        if fields:
            rule = "ni" + fields + "s"
            if len(rule) <= room:
                found.extend([rule + behind for behind in some_rules(room - len(rule))])
    return found


def sentences(most):
    """All texts of lists, told by letters, with at most so many tokens."""
    found = []
    for many in range(1, most - 3):
        found.extend(["n" * many + "c" + rules + "en$" for rules in some_rules(most - many - 4)])
    return found


def beginnings(texts):
    return {text[:many] for text in texts for many in range(len(text) + 1)}


LIST_BEGINNINGS = beginnings(sentences(15))
ROW_BEGINNINGS = beginnings(["n" * many + "$" for many in range(13)])


def coming(known, begun):
    return [WORDS[letter] for letter in LETTERS if begun + letter in known]


def expected_words(words):
    if len(words) == 1:
        return "expected " + words[0]
    if len(words) == 2:
        return f"expected {words[0]} or {words[1]}"
    return "expected " + ", ".join(words[:-1]) + " or " + words[-1]


def spread(rng, letters):
    """A text with these tokens, and the columns of the tokens."""
    text = " " * rng.randrange(3)
    columns = []
    before = ""
    for letter in letters:
        if letter == "$":
            columns.append(len(text) + 1)
        else:
            together = before + letter in ("nn", "ie", "ei", "ii", "ee")
            text += " " * (rng.randint(1, 2) if together else rng.choice((0, 0, 1, 3)))
            columns.append(len(text) + 1)
            text += CHARACTERS[letter]
            before = letter
    return text, columns


class NextTest(RowsTest):

    def check_beginning(self, rng, known, kind, letters):
        """The letters are a beginning, and each further token either can come or is the first problem."""
        text, _ = spread(rng, letters)
        text += " " * rng.randrange(2)
        words = coming(known, letters)
        self.same(next_tokens(text, kind), words, text)
        for letter in LETTERS[:-1]:
            for behind in ("", "n", "d"):
                text, columns = spread(rng, letters + letter + behind)
                if letters + letter not in known:
                    column = columns[len(letters)]
                    self.problem(column, expected_words(words), next_tokens, text, kind)
                    if kind == "list":
                        self.problem(column, expected_words(words), read_list, text)
                    else:
                        self.problem(column, expected_words(words), read_row, LISTED, text)
                        self.problem(column, expected_words(words), read_case, LISTED, text)
        if letters + "$" not in known:
            text, _ = spread(rng, letters)
            self.problem(len(text) + 1, expected_words(words), read_list, text)
            self.problem(len(text) + 3, expected_words(words), read_list, text + "  ")

    def test_each_beginning_of_the_text_of_a_list(self):
        rng = random.Random(381)
        tried = 0
        for letters in sorted(LIST_BEGINNINGS):
            if len(letters) <= 8 and "$" not in letters:
                tried += 1
                self.check_beginning(rng, LIST_BEGINNINGS, "list", letters)
        self.assertGreater(tried, 100)

    def test_each_beginning_of_the_text_of_a_row(self):
        rng = random.Random(382)
        for many in range(9):
            self.check_beginning(rng, ROW_BEGINNINGS, "row", "n" * many)

    def test_what_can_come_in_each_place(self):
        for text, words in (
                ("", ["a number"]), ("4", ["a number", '":"']), ("4 4", ["a number", '":"']),
                ("4:", ["a number", "else"]), ("4: 1", ["if"]), ("4: 1 if", ["a number", '"*"']),
                ("4: 1 if *", ["a number", '";"', '"*"']), ("4: 1 if 2", ["a number", '";"', '"*"', '".."']),
                ("4: 1 if 2..", ["a number"]), ("4: 1 if 2..3", ["a number", '";"', '"*"']),
                ("4: 1 if 2 3", ["a number", '";"', '"*"', '".."']), ("4: 1 if * 3", ["a number", '";"', '"*"', '".."']),
                ("4: 1 if *;", ["a number", "else"]), ("4: else", ["a number"]), ("4: else 0", ["the end"]),
                ("4: 1 if *; else 0", ["the end"]), ("9 9 9 9 9: 9 if", ["a number", '"*"'])):
            self.same(next_tokens(text, "list"), words, text)
            self.same(next_tokens("  " + text + "   ", "list"), words, text)
        for text in ("", "4", "4 4", "999999 0 0", "  ", " 7 "):
            self.same(next_tokens(text, "row"), ["a number", "the end"], text)

    def test_the_words_of_the_problem(self):
        self.problem(1, "expected a number", read_list, "")
        self.problem(3, "expected a number", read_list, "  ")
        self.problem(1, "expected a number", read_list, "if")
        self.problem(2, 'expected a number or ":"', read_list, "4")
        self.problem(3, 'expected a number or ":"', read_list, "4 ; 5")
        self.problem(4, "expected a number or else", read_list, "4: *")
        self.problem(4, "expected a number or else", read_list, "4: ")
        self.problem(6, "expected if", read_list, "4: 1 else")
        self.problem(9, 'expected a number or "*"', read_list, "4: 1 if ;")
        self.problem(10, 'expected a number, ";" or "*"', read_list, "4: 1 if *.. 2")
        self.problem(11, 'expected a number, ";", "*" or ".."', read_list, "4: 1 if 2 else 0")
        self.problem(12, "expected a number", read_list, "4: 1 if 2..; else 0")
        self.problem(13, 'expected a number, ";" or "*"', read_list, "4: 1 if 2..3..4; else 0")
        self.problem(8, "expected a number", read_list, "4: else")
        self.problem(11, "expected the end", read_list, "4: else 0 0")
        self.problem(10, "expected the end", read_list, "4: else 0;")
        self.problem(3, "expected a number or the end", read_row, LISTED, "0 :")
        self.problem(2, "expected a number or the end", read_case, LISTED, "0..1")
        self.problem(1, "expected a number or the end", read_row, LISTED, "else")
        self.problem(1, "expected a number or the end", next_tokens, "*", "row")

    def test_problems_of_tokens_come_first(self):
        for text, column, words in (
                ("; ; ?", 5, "no token begins here"), ("; then", 3, "there is no such word"),
                ("9 9 9 9 9: 1234567", 12, "a number has at most 6 digits"), (": 1234567 ?", 3, "a number has at most 6 digits"),
                ("4: 6 if 4; else 0 .", 19, "no token begins here")):
            self.problem(column, words, read_list, text)
            self.problem(column, words, next_tokens, text, "list")
            self.problem(column, words, next_tokens, text, "row")
            self.problem(column, words, read_row, LISTED, text)
            self.problem(column, words, read_case, LISTED, text)
        self.problem(5, "no token begins here", read_row, LISTED, "9 9 .")
        self.problem(5, "there is no such word", read_case, LISTED, "9 9 a")

    def test_the_first_token_that_cannot_come(self):
        self.problem(1, "expected a number", read_list, "; 4 4 : :")
        self.problem(5, "expected a number or else", read_list, "4 : : :")
        # The grammar comes ahead of what is told.
        self.problem(19, "expected the end", read_list, "9: 6 if 9; else 6 0")
        self.problem(5, "expected a number or the end", read_row, LISTED, "9 9 ;")
        self.problem(5, "expected a number or the end", read_case, LISTED, "9 9 ;")

    def test_values_do_not_matter_for_what_can_come(self):
        self.same(next_tokens("99 0 7 1 2 3: 7 if 9..2 8 8 8 8", "list"), ["a number", '";"', '"*"', '".."'])
        self.same(next_tokens("1: " + "1 if *;" * 9, "list"), ["a number", "else"])
        self.same(next_tokens("1 1 1 1 999999", "row"), ["a number", "the end"])

    def test_the_list_is_new_each_time(self):
        self.check_new_list(next_tokens, "4: 1 if 2", "list")
        self.check_new_list(next_tokens, "4: else 0", "list")
        self.check_new_list(next_tokens, "", "row")

    def test_wrong_arguments(self):
        for text, kind in (("", "list"), ("4: else 0", "list"), ("1 0", "row"), (" " * 400, "row")):
            self.check_arguments(next_tokens, ("text", text, NOT_TEXTS), ("kind", kind, NOT_KINDS))
        # A wrong kind comes ahead of a problem of the text.
        for text in ("?", "then", ";", "1234567"):
            self.bad("kind", next_tokens, text, "case")
        self.bad("kind", next_tokens, "", deep())
        self.bad("text", next_tokens, deep(), "list")


class Told:
    """A text that is put together token by token, with its columns and all that is wrong with it."""

    def __init__(self, rng):
        self.rng = rng
        self.text = " " * rng.randrange(2)
        self.problems = []

    def put(self, characters, *wrong):
        """Put the token in, with the words of its problems in the order of point 110."""
        self.text += " " * self.rng.choice((1, 1, 2))
        self.problems.extend([(len(self.text) + 1, at, words) for at, words in wrong])
        self.text += characters

    def number(self, value, *wrong):
        self.put("0" * self.rng.choice((0, 0, 0, 1, 3)) + str(value), *wrong)


def put_field(told, rng, widths, place, wild):
    """Put a field in; return its range."""
    width = widths[place] if place < len(widths) else None
    first = [(4, NO_FIELD)] if width is None else []
    if rng.random() < 0.2:
        told.put("*", *first)
        return (0, (width or 1) - 1)
    low, high = [rng.randrange((width or 8) + (rng.random() < wild)) for _ in range(2)]
    if rng.random() < 0.4:
        told.number(low, *first, *wrong_value(width, low))
        return (low, low)
    if low > high and rng.random() > wild:
        low, high = high, low
    told.number(low, *first, *wrong_value(width, low))
    told.put("..")
    told.number(high, *wrong_value(width, high), *([(6, ASCENDS)] if high < low else []))
    return (low, high)


def wrong_value(width, value):
    if width is not None and value >= width:
        return [(5, NO_VALUE)]
    return []


def wrong_action(action):
    return [(3, ACTION)] if action > 5 else []


def random_told(rng, wild):
    """A text, the list that it tells, and its problems; more of these the wilder it is."""
    told = Told(rng)
    widths = tuple([rng.randint(1, 8) for _ in range(rng.randint(1, 3))])
    if rng.random() < wild / 4:
        widths += tuple([rng.choice((0, 1, 8, 9, 100)) for _ in range(rng.randint(1, 3))])
    for place, width in enumerate(widths):
        wrong = [(0, FOURTH)] if place == 3 else []
        told.number(width, *wrong, *([(1, WIDTH)] if not 1 <= width <= 8 else []))
    told.put(":")
    rules = []
    for place in range(rng.choice((0, 1, 2, 3, 7, 8, 9) if rng.random() < wild else (0, 1, 2, 6, 7))):
        action = rng.randrange(6 + (rng.random() < wild / 3))
        told.number(action, *([(2, EIGHTH)] if place == 7 else []), *wrong_action(action))
        told.put("if")
        many = len(widths) + (rng.choice((-1, 1)) if rng.random() < wild / 4 else 0)
        many = max(1, many)
        ranges = tuple([put_field(told, rng, widths, at, wild / 4) for at in range(many)])
        told.put(";", *([(7, NO_FIELDS)] if many < len(widths) else []))
        rules.append((action, ranges))
    told.put("else")
    rest = rng.randrange(6 + (rng.random() < wild / 2))
    told.number(rest, *wrong_action(rest))
    return told, (widths, tuple(rules), rest)


class ListTest(RowsTest):

    def test_random_texts(self):
        rng = random.Random(383)
        tried = {}
        for number in range(4000):
            told, listed = random_told(rng, (0, 0.3, 1)[number % 3])
            if len(told.text) <= 400:
                if told.problems:
                    column, _, words = min(told.problems)
                    self.problem(column, words, read_list, told.text)
                else:
                    words = "none"
                    self.same(read_list(told.text), listed, told.text)
                tried[words] = tried.get(words, 0) + 1
        self.same(len(tried), 9)
        self.assertGreater(min(tried.values()), 20)

    def test_each_problem_alone(self):
        for text, column, words in (
                ("1 1 1 1: else 0", 7, FOURTH), ("0: else 0", 1, WIDTH), ("9: else 0", 1, WIDTH),
                ("8 0: else 0", 3, WIDTH), ("8 8 9: else 0", 5, WIDTH), ("999999: else 0", 1, WIDTH),
                ("000009: else 0", 1, WIDTH),
                ("1: " + "1 if *; " * 8 + "else 0", 60, EIGHTH),
                ("4: 6 if *; else 0", 4, ACTION), ("4: 1 if *; else 6", 17, ACTION), ("4: else 6", 9, ACTION),
                ("4: 1 if *; 10 if *; else 0", 12, ACTION), ("4: else 999999", 9, ACTION),
                ("4: 1 if * *; else 0", 11, NO_FIELD), ("4: 1 if * 2; else 0", 11, NO_FIELD),
                ("4: 1 if 1..2 3..3; else 0", 14, NO_FIELD), ("4 4 4: 1 if * * * *; else 0", 19, NO_FIELD),
                ("4: 1 if 4; else 0", 9, NO_VALUE), ("4: 1 if 4..5; else 0", 9, NO_VALUE),
                ("4: 1 if 3..4; else 0", 12, NO_VALUE), ("1: 1 if 1; else 0", 9, NO_VALUE),
                ("4 2: 1 if 3 3; else 0", 13, NO_VALUE), ("8: 1 if 8; else 0", 9, NO_VALUE),
                ("4: 1 if 3..2; else 0", 12, ASCENDS), ("4: 1 if 1..0; else 0", 12, ASCENDS),
                ("4 4: 1 if *; else 0", 12, NO_FIELDS), ("4 4 4: 1 if * 2; else 0", 16, NO_FIELDS),
                ("4 4: 1 if * *; 2 if 0..1 ; else 0", 26, NO_FIELDS)):
            self.problem(column, words, read_list, text)

    def test_of_several_problems_the_leftmost_one(self):
        for text, column, words in (
                ("9 0 4: 6 if *; else 6", 1, WIDTH), ("4 9: 6 if 9; else 6", 3, WIDTH),
                ("4 9 4 4: else 0", 3, WIDTH), ("4 4 4 4: 6 if *; else 0", 7, FOURTH),
                ("4: 6 if 4; else 6", 4, ACTION), ("4: 1 if 4; else 6", 9, NO_VALUE),
                ("4 4: 1 if 4; else 6", 11, NO_VALUE), ("4 4: 1 if 3..1; else 6", 14, ASCENDS),
                ("4 4: 1 if 3; else 6", 12, NO_FIELDS), ("4 4: 1 if 3; 6 if * *; else 0", 12, NO_FIELDS),
                ("4: 1 if 3 9; 6 if *; else 0", 11, NO_FIELD), ("4: 1 if 2..1 3; else 0", 12, ASCENDS),
                ("4: 1 if 9..1 3; else 0", 9, NO_VALUE),
                ("1: " + "1 if *; " * 6 + "6 if *; " + "1 if *; else 0", 52, ACTION),
                ("1: " + "1 if *; " * 6 + "1 if 1; " + "1 if *; else 0", 57, NO_VALUE),
                ("1: " + "1 if *; " * 8 + "6 if *; else 6", 60, EIGHTH)):
            self.problem(column, words, read_list, text)

    def test_of_several_problems_at_one_token_the_one_told_first(self):
        for text, column, words in (
                ("4 4 4 9: else 0", 7, FOURTH), ("4 4 4 0: else 0", 7, FOURTH), ("1 1 1 1 1 1: else 0", 7, FOURTH),
                ("1: " + "1 if *; " * 7 + "6 if *; else 0", 60, EIGHTH),
                ("1: " + "1 if *; " * 7 + "9 if 9..3 4; else 0", 60, EIGHTH),
                ("4: 1 if 3 9; else 0", 11, NO_FIELD), ("4: 1 if 3 9..2; else 0", 11, NO_FIELD),
                ("4: 1 if 3..9; else 0", 12, NO_VALUE), ("4: 1 if 9..4; else 0", 9, NO_VALUE),
                ("8: 1 if 7..8; else 0", 12, NO_VALUE)):
            self.problem(column, words, read_list, text)

    def test_at_a_second_number_the_value_comes_before_the_sequence(self):
        # A second number that is too great for the width is never less than a first one that is not.
        self.problem(12, NO_VALUE, read_list, "4: 1 if 3..4; else 0")
        self.problem(9, NO_VALUE, read_list, "4: 1 if 5..4; else 0")

    def test_what_the_text_tells(self):
        four = ((4, 4), ((1, ((0, 1), (0, 3))), (2, ((1, 3), (1, 3)))), 0)
        for text in ("4 4: 1 if 0..1 *; 2 if 1..3 1..3; else 0", "4 4:1 if 0..1*;2 if 1..3 1..3;else 0",
                     "   4   4  :  1  if  0 .. 1  0 .. 3 ; 2 if 1 .. 3 1..3 ;else 0   ",
                     "04 000004: 01if00..01*;02if1..3 01..03;else00", "4 4:1if0..1*;2if1..3 1..3;else0",
                     "4 4: 1 if 0..1 0..3; 2 if 1..3 1..3; else 0"):
            self.same(read_list(text), four, text)
        self.same(read_list("8: else 5"), ((8,), (), 5))
        self.same(read_list("1 1 1: 0 if * 0 0..0; else 3"), ((1, 1, 1), ((0, ((0, 0), (0, 0), (0, 0))),), 3))
        self.same(read_list("8 8: 1 if 3..3 3; else 0"), ((8, 8), ((1, ((3, 3), (3, 3))),), 0))
        self.same(read_list("8 8: 1 if 3 4..5; 2 if 3..4 5; else 0"), (
            (8, 8), ((1, ((3, 3), (4, 5))), (2, ((3, 4), (5, 5)))), 0))
        self.same(read_list("8 8: 1 if * 4; 2 if 4*; 3 if ** ;else 0")[1], (
            (1, ((0, 7), (4, 4))), (2, ((4, 4), (0, 7))), (3, ((0, 7), (0, 7)))))
        self.same(read_list("8: " + "1 if 7; " * 7 + "else 0"), ((8,), ((1, ((7, 7),)),) * 7, 0))
        for width in range(1, 9):
            self.same(read_list(f"{width}: 1 if *; 1 if 0..{width - 1}; else 0"), (
                (width,), ((1, ((0, width - 1),)), (1, ((0, width - 1),))), 0))
        for action in range(6):
            self.same(read_list(f"4: {action} if *; else {action}"), ((4,), ((action, ((0, 3),)),), action))

    def test_texts_of_400_and_401_characters(self):
        text = "4: else 0" + " " * 391
        self.same(read_list(text), ((4,), (), 0))
        self.same(read_list(" " * 391 + "4: else 0"), ((4,), (), 0))
        self.bad("text", read_list, text + " ")
        self.problem(401, 'expected a number or ":"', read_list, "4" + " " * 399)

    def test_wrong_arguments(self):
        for text in ("4: else 0", "4 4: 1 if 0..1 *; 2 if 1..3 1..3; else 0"):
            self.check_arguments(read_list, ("text", text, NOT_TEXTS))


def problem_of_numbers(kind, listed, numbers, columns, end):
    """The first problem of the text of a row or a case by the words of point 111, or None."""
    widths, rules, _ = listed
    for at, (number, column) in enumerate(zip(numbers, columns)):
        if kind == "row":
            if number >= len(rules):
                return (column, "there is no such rule")
            if number in numbers[:at]:
                return (column, "this rule stands already")
        else:
            if at >= len(widths):
                return (column, NO_FIELD)
            if number >= widths[at]:
                return (column, NO_VALUE)
    if kind == "row" and len(numbers) < len(rules):
        return (end, "a rule is missing")
    if kind == "case" and len(numbers) < len(widths):
        return (end, NO_FIELDS)
    return None


class RowAndCaseTest(RowsTest):

    def check_numbers(self, rng, listed, numbers):
        text, columns = " " * rng.randrange(2), []
        for at, number in enumerate(numbers):
            text += " " * rng.choice((1, 1, 2)) if at else ""
            columns.append(len(text) + 1)
            text += "0" * rng.choice((0, 0, 0, 2)) + str(number)
        text += " " * rng.randrange(3)
        found = []
        for kind, function in (("row", read_row), ("case", read_case)):
            expected = problem_of_numbers(kind, listed, numbers, columns, len(text) + 1)
            if expected is None:
                self.same(function(listed, text), tuple(numbers))
            else:
                self.problem(*expected, function, listed, text)
            found.append((kind, "none" if expected is None else expected[1]))
        return found

    def test_random_texts(self):
        rng = random.Random(384)
        tried = {}
        for listed in EDGE_LISTS + (NO_RULES, ONE_RULE, WIDEST) + tuple(some_lists(385, 150)):
            widths, rules, _ = listed
            for _ in range(6):
                row = list(rng.sample(range(len(rules)), len(rules)))
                case = [rng.randrange(width) for width in widths]
                numbers = rng.choice((row, case))
                if rng.random() < 0.5:
                    at = rng.randint(0, len(numbers))
                    numbers[at:at + rng.randrange(2)] = [rng.randrange(9) for _ in range(rng.randrange(3))]
                for told in self.check_numbers(rng, listed, numbers):
                    tried[told] = tried.get(told, 0) + 1
        self.same(len(tried), 8)
        self.assertGreater(min(tried.values()), 20)

    def test_each_row_and_each_case(self):
        for listed in (LISTED, NO_RULES, ONE_RULE):
            for row in all_rows(listed):
                self.same(read_row(listed, " ".join([str(number) for number in row])), row)
            for case in all_cases(listed[0]):
                self.same(read_case(listed, " ".join([str(value) for value in case])), case)
        self.same(read_row(NO_RULES, ""), ())
        self.same(read_row(NO_RULES, "    "), ())
        self.same(read_row(LISTED, " 002   1  000000 "), (2, 1, 0))
        self.same(read_case(LISTED, "  03 02"), (3, 2))

    def test_problems_of_rows(self):
        for text, column, words in (
                ("3", 1, "there is no such rule"), ("0 3 1", 3, "there is no such rule"),
                ("999999", 1, "there is no such rule"), ("0 0", 3, "this rule stands already"),
                ("0 1 2 0", 7, "this rule stands already"), ("0 1 2 3", 7, "there is no such rule"),
                ("0 1 00", 5, "this rule stands already"), ("", 1, "a rule is missing"), ("0 1", 4, "a rule is missing"),
                ("0 1  ", 6, "a rule is missing"), ("0 0 3", 3, "this rule stands already"),
                ("3 0 0", 1, "there is no such rule"), ("2 2 2 2", 3, "this rule stands already")):
            self.problem(column, words, read_row, LISTED, text)
        self.problem(1, "there is no such rule", read_row, NO_RULES, "0")
        self.problem(3, "this rule stands already", read_row, ONE_RULE, "0 0")
        self.problem(1, "a rule is missing", read_row, ONE_RULE, "")

    def test_problems_of_cases(self):
        for text, column, words in (
                ("4 0", 1, NO_VALUE), ("0 3", 3, NO_VALUE), ("999999", 1, NO_VALUE), ("0 0 0", 5, NO_FIELD),
                ("0 0 9", 5, NO_FIELD), ("0 0 0 9", 5, NO_FIELD), ("", 1, NO_FIELDS), ("0", 2, NO_FIELDS),
                ("  0  ", 6, NO_FIELDS), ("4", 1, NO_VALUE), ("0 3 0", 3, NO_VALUE), ("4 3 9", 1, NO_VALUE)):
            self.problem(column, words, read_case, LISTED, text)
        self.problem(3, NO_FIELD, read_case, NO_RULES, "3 0")
        self.problem(1, NO_VALUE, read_case, NO_RULES, "4 0")

    def test_wrong_arguments(self):
        for text in ("2 0 1", ""):
            self.check_arguments(read_row, LISTED_ARGUMENT, ("text", text, NOT_TEXTS))
        for text in ("3 2", "?"):
            self.check_arguments(read_case, LISTED_ARGUMENT, ("text", text, NOT_TEXTS))
        for function in (read_row, read_case):
            self.bad("listed", function, NOT_LISTS[0], "?")
            self.bad("text", function, LISTED, "?\n")
            self.bad("text", function, LISTED, "?" * 401)
            self.bad("text", function, LISTED, deep())


class AllTest(RowsTest):

    def test_functions_are_defined_in_their_file(self):
        for name in ("next_tokens", "read_list", "read_row", "read_case"):
            self.assertEqual(getattr(reading_file, name).__module__, "rulerows.reading")

    def test_example_of_point_115(self):
        listed = read_list("4 4: 1 if 0..1 *; 2 if 1..3 1..3; else 0")
        self.same(listed, ((4, 4), ((1, ((0, 1), (0, 3))), (2, ((1, 3), (1, 3)))), 0))

    def test_examples_of_the_interface(self):
        self.check_examples("""
>>> from rulerows.reading import next_tokens, read_case, read_list, read_row
>>> listed = read_list("4 4: 1 if 0..1 *; 2 if 1..3 1..3; else 0")
>>> listed, read_row(listed, "1 0"), read_case(listed, "3 0")
(((4, 4), ((1, ((0, 1), (0, 3))), (2, ((1, 3), (1, 3)))), 0), (1, 0), (3, 0))
>>> next_tokens("4", "list"), next_tokens("4: 1 if 2", "list"), next_tokens("", "row")
(['a number', '":"'], ['a number', '";"', '"*"', '".."'], ['a number', 'the end'])
""")
        self.problem(9, "there is no such value", read_list, "4: 1 if 4; else 0")


if __name__ == "__main__":
    unittest.main()
