"""scanning.py: points 105, 106 and 114."""

import random
import re
import unittest

from rulerows import scanning as scanning_file
from rulerows.scanning import scan
from tests.support import NOT_TEXTS, RowsTest

NOTHING = "no token begins here"
NO_WORD = "there is no such word"
TOO_LONG = "a number has at most 6 digits"


def scanned(text):
    """The tokens by the words of point 106, or the column and the words of the first problem."""
    tokens = []
    at = 0
    while at < len(text):
        found = re.compile("[a-z]+|[0-9]+|:|;|[*]|[.][.]| +", re.ASCII).match(text, at)
        if found is None:
            return (at + 1, NOTHING)
        part = found.group()
        if part.isalpha():
            if part not in ("if", "else"):
                return (at + 1, NO_WORD)
            tokens.append(("word", part, at + 1))
        elif part.isdigit():
            if len(part) > 6:
                return (at + 1, TOO_LONG)
            tokens.append(("number", part, at + 1))
        elif part.strip():
            tokens.append(("sign", part, at + 1))
        at = found.end()
    return tokens + [("end", "", len(text) + 1)]


class ScanTest(RowsTest):

    def check_scan(self, text):
        expected = scanned(text)
        if type(expected) is list:
            self.same(scan(text), expected, text)
        else:
            self.problem(*expected, scan, text)
        return type(expected) is list

    def test_each_kind_of_token(self):
        self.same(scan("if"), [("word", "if", 1), ("end", "", 3)])
        self.same(scan("else"), [("word", "else", 1), ("end", "", 5)])
        self.same(scan("12"), [("number", "12", 1), ("end", "", 3)])
        for sign in (":", ";", "*", ".."):
            self.same(scan(sign), [("sign", sign, 1), ("end", "", 1 + len(sign))])
        self.same(scan(""), [("end", "", 1)])

    def test_each_character_alone_and_beside_others(self):
        for code in list(range(0, 400)) + [0x660, 0x2003, 0x2028, 0x20ac, 0xff10, 0xff41, 0x1f600, 0xd800]:
            character = chr(code)
            if character != "\n":
                for text in (character, character * 2, " " + character, "4" + character, character + "4",
                             "if" + character, character + "else", "." + character, ":" + character + ":"):
                    self.check_scan(text)

    def test_random_texts(self):
        rng = random.Random(371)
        tried = {True: 0, False: 0}
        parts = ("if", "else", ":", ";", "*", "..", " ", "  ", "0", "7", "12", "007", "123456", "")
        odd = ("1234567", ".", "a", "ifs", "I", "\t", "-", "\u00e9", "\u0663", "\u00a0", ",", "elseif", "...")
        for _ in range(4000):
            text = "".join([rng.choice(parts) for _ in range(rng.randint(0, 12))])
            if rng.random() < 0.3:
                at = rng.randint(0, len(text))
                text = text[:at] + rng.choice(odd) + text[at:]
            tried[self.check_scan(text)] += 1
        self.assertGreater(min(tried.values()), 500)

    def test_blanks(self):
        self.same(scan("   "), [("end", "", 4)])
        self.same(scan("  4   if "), [("number", "4", 3), ("word", "if", 7), ("end", "", 10)])
        self.same(scan("4 "), [("number", "4", 1), ("end", "", 3)])
        for blank in ("\t", "\r", "\v", "\f", "\u00a0", "\u2003", "\u3000", "\u2028", "\x1c", "\x85", "\0"):
            self.problem(1, NOTHING, scan, blank)
            self.problem(2, NOTHING, scan, "4" + blank + "4")
            self.problem(4, NOTHING, scan, " 4 " + blank)

    def test_no_blank_is_needed(self):
        self.same(scan("4:1if0..1*;else0"), [
            ("number", "4", 1), ("sign", ":", 2), ("number", "1", 3), ("word", "if", 4), ("number", "0", 6),
            ("sign", "..", 7), ("number", "1", 9), ("sign", "*", 10), ("sign", ";", 11), ("word", "else", 12),
            ("number", "0", 16), ("end", "", 17),
        ])
        self.same(scan("::;;**...."), [
            ("sign", ":", 1), ("sign", ":", 2), ("sign", ";", 3), ("sign", ";", 4), ("sign", "*", 5), ("sign", "*", 6),
            ("sign", "..", 7), ("sign", "..", 9), ("end", "", 11),
        ])

    def test_tokens_are_as_long_as_possible(self):
        self.problem(1, NO_WORD, scan, "ifelse")
        self.problem(1, NO_WORD, scan, "ifif")
        self.problem(4, NO_WORD, scan, "12 elsee")
        self.same(scan("if else"), [("word", "if", 1), ("word", "else", 4), ("end", "", 8)])
        self.same(scan("if2else"), [("word", "if", 1), ("number", "2", 3), ("word", "else", 4), ("end", "", 8)])

    def test_words(self):
        for word in ("i", "f", "e", "els", "then", "iff", "elseif", "a", "z", "abcdefghijklmnopqrstuvwxyz"):
            self.problem(1, NO_WORD, scan, word)
            self.problem(3, NO_WORD, scan, "4:" + word + "1")
        for word in ("If", "IF", "Else", "ELSE", "A", "Z"):
            self.problem(1, NOTHING, scan, word)
        self.problem(1, NO_WORD, scan, "iF")
        self.problem(3, NOTHING, scan, "ifF")
        self.problem(5, NOTHING, scan, "elseE")
        for character in ("\u00e9", "\u0131", "\u00df", "\ufb01", "\u0430"):
            self.problem(1, NOTHING, scan, character)
            self.problem(3, NOTHING, scan, "if" + character)

    def test_points(self):
        self.problem(1, NOTHING, scan, ".")
        self.problem(2, NOTHING, scan, "2.5")
        self.problem(2, NOTHING, scan, "2. .5")
        self.problem(3, NOTHING, scan, "...")
        self.problem(4, NOTHING, scan, "2...5")
        self.same(scan(".. .."), [("sign", "..", 1), ("sign", "..", 4), ("end", "", 6)])

    def test_numbers_of_six_and_seven_digits(self):
        for number in ("0", "9", "00", "000000", "123456", "999999"):
            self.same(scan(number), [("number", number, 1), ("end", "", 1 + len(number))])
        for number in ("0000000", "1234567", "9" * 12, "1" * 400):
            self.problem(1, TOO_LONG, scan, number)
        self.problem(3, TOO_LONG, scan, "4:1234567.")
        self.same(scan("123456 7"), [("number", "123456", 1), ("number", "7", 8), ("end", "", 9)])

    def test_digits_that_are_none_of_0_to_9(self):
        for digit in ("\u0660", "\u0967", "\uff10", "\u00b2", "\u00bd", "\u2460", "\u4e00"):
            self.problem(1, NOTHING, scan, digit)
            self.problem(2, NOTHING, scan, "4" + digit)
            self.problem(7, NOTHING, scan, "123456" + digit)
        for sign in ("-1", "+1", "_1", ",1"):
            self.problem(1, NOTHING, scan, sign)
        self.problem(2, NOTHING, scan, "1_000")

    def test_the_first_token_with_a_problem(self):
        self.problem(1, NO_WORD, scan, "then 1234567 ?")
        self.problem(3, TOO_LONG, scan, "4 1234567 then ?")
        self.problem(2, NOTHING, scan, " ? 1234567 then")
        self.problem(1, NO_WORD, scan, "a?")
        self.problem(1, TOO_LONG, scan, "1234567a")
        self.problem(7, NO_WORD, scan, "123456a")

    def test_columns_up_to_400_characters(self):
        self.same(scan(" " * 400), [("end", "", 401)])
        self.same(scan(" " * 399 + "4"), [("number", "4", 400), ("end", "", 401)])
        self.same(scan("4" + " " * 399), [("number", "4", 1), ("end", "", 401)])
        self.same(len(scan("*" * 400)), 401)
        self.problem(400, NOTHING, scan, "4" * 3 + " " * 396 + "?")
        self.problem(400, NOTHING, scan, "." * 2 + " " * 397 + ".")

    def test_the_list_is_new_each_time(self):
        self.check_new_list(scan, "4: else 0")

    def test_wrong_arguments(self):
        for text in ("", "4: else 0", " " * 400):
            self.check_arguments(scan, ("text", text, NOT_TEXTS))

    def test_wrong_texts_come_before_problems(self):
        self.bad("text", scan, "?" + " " * 400)
        self.bad("text", scan, "?\n")
        self.problem(1, NOTHING, scan, "?")
        self.problem(1, NOTHING, scan, "?" + " " * 399)

    def test_functions_are_defined_in_their_file(self):
        self.assertEqual(scanning_file.scan.__module__, "rulerows.scanning")


if __name__ == "__main__":
    unittest.main()
