"""journals.py: points 120, 122, 123 and 125."""

import random
import unittest

from rulerows import journals as journals_file
from rulerows.book import Book
from rulerows.journals import are_right, replayed
from tests.books import (
    BOOK_LIST, EMPTY_LIST, NOT_COMMANDS, Model, random_command, random_journal, some_books, tell,
)
from tests.support import (
    LISTED, NOT_LISTS, ODD_VALUES, RowsTest, changed_values, deep, kinds,
)

LISTED_ARGUMENT = ("listed", LISTED, NOT_LISTS)
RULE = (1, ((0, 1), (0, 2)))
GOOD = (("lock",), ("count", (3, 2)), ("insert", 0, RULE), ("unlock",), ("move", 0, 3), ("remove", 3))
NOT_JOURNALS = tuple([value for value in ODD_VALUES if value != ()]) + (
    list(GOOD), [], [("lock",)], ("lock",), ("remove", 0), (GOOD,), (("count", (0, 0)),) * 21, (("count", (0, 0)),) * 22,
    (("lock",), ("unlock",)) * 11, "lock", {("lock",): 1},
) + tuple([GOOD + (command,) for command in NOT_COMMANDS]) + tuple([(command,) + GOOD for command in NOT_COMMANDS])


def is_whole(value, least, most):
    return type(value) is int and least <= value <= most


def has_rule_form(widths, value):
    if type(value) is not tuple or len(value) != 2 or not is_whole(value[0], 0, 5):
        return False
    if type(value[1]) is not tuple or len(value[1]) != len(widths):
        return False
    for width, ends in zip(widths, value[1]):
        if type(ends) is not tuple or len(ends) != 2 or not all([is_whole(end, 0, width - 1) for end in ends]):
            return False
        if ends[0] > ends[1]:
            return False
    return True


def has_command_form(widths, value):
    """Whether it is a command by the words of point 117."""
    if type(value) is not tuple or not value or type(value[0]) is not str:
        return False
    word, told = value[0], value[1:]
    if word in ("lock", "unlock"):
        return told == ()
    if word == "count":
        if len(told) != 1 or type(told[0]) is not tuple or len(told[0]) != len(widths):
            return False
        return all([is_whole(item, 0, width - 1) for item, width in zip(told[0], widths)])
    if word == "insert":
        return len(told) == 2 and is_whole(told[0], 0, 7) and has_rule_form(widths, told[1])
    many = {"remove": 1, "move": 2}.get(word)
    return len(told) == many and all([is_whole(item, 0, 7) for item in told])


def right_records(listed, value):
    """Whether the records are right by the words of point 122."""
    if type(value) is not tuple or len(value) > 20:
        return False
    model = Model(listed)
    for record in value:
        if type(record) is not tuple or len(record) != 2 or not has_command_form(listed[0], record[0]):
            return False
        if model.why_not(record[0]) is not None or kinds(model.value(record[0])) != kinds(record[1]):
            return False
        model.act(record[0])
    return True


class ReplayedTest(RowsTest):

    def test_a_book_replayed_from_its_journal(self):
        for rng, listed in some_books(411, 60):
            model = random_journal(rng, listed, rng.randint(0, 20))
            journal = tuple([command for command, _ in model.log])
            book = replayed(listed, journal)
            self.assertIs(type(book), Book)
            self.same(tell(book), model.told())
            self.same(tell(replayed(listed, book.journal())), model.told())

    def test_no_commands(self):
        self.same(tell(replayed(BOOK_LIST, ())), tell(Book(BOOK_LIST)))

    def test_each_replayed_book_is_a_book_of_its_own(self):
        journal = (("count", (5,)), ("lock",))
        one, other = replayed(BOOK_LIST, journal), replayed(BOOK_LIST, journal)
        one.act(("count", (5,)))
        one.act(("unlock",))
        self.same(tell(other), tell(replayed(BOOK_LIST, journal)))

    def test_what_the_commands_raise(self):
        tried = {}
        for rng, listed in some_books(412, 150):
            model, commands, why = Model(listed), [], None
            while why is None and len(commands) < 20:
                command = random_command(rng, model)
                why = model.why_not(command)
                commands.append(command)
                if why is None:
                    model.act(command)
            if why is not None:
                tried[why] = tried.get(why, 0) + 1
                # Of several commands that are not possible the first one tells why.
                while len(commands) < rng.randint(0, 20):
                    commands.append(random_command(rng, model))
                self.not_possible(why, replayed, listed, tuple(commands))
        self.same(sorted(tried), ["change", "locked", "many", "missing", "open"])
        self.not_possible("open", replayed, LISTED, (("unlock",), ("remove", 7)))
        self.not_possible("missing", replayed, LISTED, (("remove", 7), ("unlock",)))

    def test_twenty_commands_and_twenty_one(self):
        journal = (("lock",), ("unlock",)) * 10
        self.same(replayed(LISTED, journal).journal(), journal)
        self.bad("journal", replayed, LISTED, journal + (("lock",),))
        self.bad("journal", replayed, LISTED, (("unlock",),) * 21)
        self.too_large("commands", replayed(LISTED, journal).act, ("lock",))
        self.not_possible("open", replayed, LISTED, (("unlock",),) * 20)

    def test_wrong_arguments(self):
        for journal in ((), GOOD):
            self.check_arguments(replayed, LISTED_ARGUMENT, ("journal", journal, NOT_JOURNALS))
        # The whole journal is checked before anything is carried out.
        self.bad("journal", replayed, LISTED, (("unlock",), ("remove", 8)))
        self.bad("journal", replayed, LISTED, (("remove", 7), None))
        self.bad("journal", replayed, LISTED, deep())
        self.bad("journal", replayed, LISTED, (deep(),))


class RecordsTest(RowsTest):

    def test_the_records_of_a_book(self):
        for rng, listed in some_books(413, 80):
            model = random_journal(rng, listed, rng.randint(0, 20))
            records = tuple(model.log)
            self.same(are_right(listed, records), True)
            self.same(replayed(listed, tuple([command for command, _ in records])).records(), records)
            for many in range(len(records)):
                self.same(are_right(listed, records[:many]), True)

    def test_no_others_with_these_commands(self):
        for rng, listed in some_books(414, 40):
            records = tuple(random_journal(rng, listed, 6).log)
            for at, (command, value) in enumerate(records):
                for other in (None, (0,), (0, 0), (0, 0, 0), (1, None), (2, None), (1, 0), (0, 1), (2, 2), False, 0, "", ()):
                    if kinds(other) != kinds(value):
                        changed = records[:at] + ((command, other),) + records[at + 1:]
                        self.same(are_right(listed, changed), False, changed)

    def test_changed_records(self):
        rng = random.Random(415)
        tried = {True: 0, False: 0}
        for source, listed in some_books(416, 120):
            records = tuple(random_journal(source, listed, source.randint(0, 8)).log)
            for value in changed_values(rng, records, 12):
                expected = right_records(listed, value)
                tried[expected] += 1
                self.same(are_right(listed, value), expected, (listed, value))
        self.assertGreater(min(tried.values()), 100)

    def test_commands_that_are_not_possible(self):
        tried = {True: 0, False: 0}
        for rng, listed in some_books(417, 100):
            model = random_journal(rng, listed, rng.randint(0, 6))
            for _ in range(6):
                command = random_command(rng, model)
                why = model.why_not(command)
                if why in (None, "change"):
                    record = (command, model.value(command))
                else:
                    record = (command, None)
                tried[why is None] += 1
                self.same(are_right(listed, tuple(model.log) + (record,)), why is None)
        self.assertGreater(min(tried.values()), 50)

    def test_values_of_a_wrong_form(self):
        right = ((("count", (1,)), (1, 0)), (("move", 2, 0), (5,)), (("lock",), None), (("count", (0,)), (2, None)))
        self.same(are_right(BOOK_LIST, right), True)
        (count, pair), (move, change), (lock, _), (miss, missed) = right
        for value in (
                list(right), (list(right[0]),), ((count, pair, None),), ((count,),), ((pair, count),), (count, pair),
                ((list(count), pair),), ((count, list(pair)),), ((count, (True, 0)),), ((count, (1, False)),),
                ((count, (1,)),), ((count, (1, 0, 0)),), ((count, (1, None)),), ((count, None),), ((count, 1),),
                ((count, (1, 1)),), ((count, (0, 0)),), ((count, ("1", 0)),), ((count, (1, "0")),), ((count, ((1,), 0)),),
                ((("count", (True,)), pair),), ((("count", [1]), pair),), ((("count", 1), pair),),
                ((move, None),), ((move, 5),), ((move, [5]),), ((move, (5, 5)),), ((move, (4,)),), ((move, (6,)),),
                ((move, ()),), ((("move", 2, False), (5,)),), ((("move", 2.5, 0), (5,)),), ((["move", 2, 0], (5,)),),
                ((lock, False),), ((lock, 0),), ((lock, ()),), ((lock, "none"),), ((lock, (0,)),), ((("Lock",), None),),
                ((["lock"], None),), (("lock", None),), ((None, None),), ((lock, None), None), ((lock, None), ()),
                ((miss, (2, 0)),), ((miss, (2, 2)),), ((miss, (2,)),), ((miss, None),), ((miss, (None, None)),),
                ((miss, (2, False)),), (right,), ((right[0], right[1]),), "ab", ("ab",), {(lock, None): 0}):
            self.same(are_right(BOOK_LIST, value), False, value)
        ones = ((8,), ((1, ((0, 7),)), (1, ((1, 1),))), 0)
        self.same(are_right(ones, ((("count", (1,)), (1, 0)), (("remove", 0), (0,)), (("count", (1,)), (1, 0)))), True)
        self.same(are_right(ones, ((("count", (1,)), (1, 0)), (("remove", 0), (False,)))), False)
        self.same(are_right(ones, ((("count", (1,)), (True, False)),)), False)
        self.same(are_right(ones, ((("count", (1,)), (1, False)),)), False)
        self.same(are_right(ones, ((("remove", False), (0,)),)), False)

    def test_odd_values(self):
        for value in ODD_VALUES:
            self.same(are_right(BOOK_LIST, value), kinds(value) == kinds(()), value)
            self.same(are_right(BOOK_LIST, (value,)), False, value)
            self.same(are_right(BOOK_LIST, ((("lock",), value),)), value is None, value)
            self.same(are_right(BOOK_LIST, ((value, None),)), False, value)
            self.same(are_right(BOOK_LIST, ((("count", (1,)), value),)), False, value)
            self.same(are_right(BOOK_LIST, ((("move", 2, 1), value),)), value is None, value)

    def test_wrong_commands_in_records(self):
        for command in NOT_COMMANDS:
            for value in (None, (0, 0), (1, 0)):
                self.same(are_right(LISTED, ((("lock",), None), (command, value))), False, command)

    def test_very_long_and_very_deep_values(self):
        down = deep()
        for value in (down, (down,), ((down, None),), ((("lock",), down),), ((("count", (1,)), (down, 0)),),
                      ((("count", (1,)), (1, down)),), ((("move", 2, 0), (down,)),), ((("move", 2, 0), down),), [down],
                      (((down,), None),), ((("count", down), (1, 0)),), ((("lock",), None),) * 100000):
            self.assertTrue(are_right(BOOK_LIST, value) is False)

    def test_twenty_records_and_twenty_one(self):
        twenty = ((("lock",), None), (("unlock",), None)) * 10
        self.same(are_right(BOOK_LIST, twenty), True)
        self.same(are_right(BOOK_LIST, twenty + ((("lock",), None),)), False)
        self.same(are_right(BOOK_LIST, ((("count", (1,)), (1, 0)),) * 20), True)
        self.same(are_right(BOOK_LIST, ((("count", (1,)), (1, 0)),) * 21), False)
        self.same(are_right(BOOK_LIST, ()), True)

    def test_each_record_holds_behind_those_before_it(self):
        rule = (3, ((2, 2),))
        inserts = tuple([(("insert", place, rule), (2,) if place == 0 else None) for place in range(7)])
        self.same(are_right(EMPTY_LIST, inserts), True)
        self.same(are_right(EMPTY_LIST, inserts + ((("insert", 0, rule), None),)), False)
        self.same(are_right(EMPTY_LIST, inserts[1:]), False)
        locked = ((("lock",), None), (("insert", 0, rule), (2,)))
        self.same(are_right(EMPTY_LIST, locked), False)
        self.same(are_right(EMPTY_LIST, locked[::-1]), True)
        self.same(are_right(EMPTY_LIST, locked[1:] + locked[:1] + ((("remove", 0), (2,)),)), False)
        self.same(are_right(EMPTY_LIST, locked[1:] + locked[:1] + ((("move", 0, 0), None),)), True)

    def test_wrong_arguments(self):
        for records in ((), None, [1], ((("lock",), None),)):
            self.check_arguments(are_right, LISTED_ARGUMENT, ("records", records, ()))


class AllTest(RowsTest):

    def test_functions_are_defined_in_their_file(self):
        for name in ("replayed", "are_right"):
            self.assertEqual(getattr(journals_file, name).__module__, "rulerows.journals")

    def test_examples_of_the_interface(self):
        self.check_examples("""
>>> from rulerows.journals import are_right, replayed
>>> are_right(((8,), (), 1), ((("count", (3,)), (1, None)), (("lock",), None)))
True
>>> replayed(((8,), (), 1), (("lock",),)).is_locked()
True
""")


if __name__ == "__main__":
    unittest.main()
