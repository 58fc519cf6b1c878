"""book.py: points 8 and 116 to 126."""

import unittest

from rulerows import book as book_file
from rulerows.book import Book
from rulerows.journals import replayed
from tests.books import (
    BOOK_LIST, EMPTY_LIST, NOT_COMMANDS, NOT_REARRANGEMENTS, OTHER_COMMANDS, Model, random_command, random_journal,
    some_books, tell,
)
from tests.support import (
    EDGE_LISTS, LISTED, NOT_CASES, NOT_LISTS, RowsTest, WIDEST, all_cases, ascending, deciding, deep,
)

RULE = (1, ((0, 1), (0, 2)))
REARRANGING = ("insert", "remove", "move")
# Seven rules for LISTED's widths, of which each decides alike.
SEVEN_ALIKE = ((4, 3), (RULE,) * 7, 1)


class RandomTest(RowsTest):

    def check_command(self, book, model, command):
        """The book does what the model does; if the command is not possible, nothing changes."""
        if command[0] in REARRANGING:
            why, change = model.change(command)
            if why is None:
                self.same(book.change(command), change, (model.first, model.log, command))
            else:
                self.not_possible(why, book.change, command)
        why = model.why_not(command)
        if why is not None:
            before = tell(book)
            self.not_possible(why, book.act, command)
            self.same(tell(book), before)
        elif len(model.log) == 20:
            before = tell(book)
            self.too_large("commands", book.act, command)
            self.same(tell(book), before)
        else:
            model.act(command)
            self.same(book.act(command), len(model.log))
        self.same(tell(book), model.told(), (model.first, model.log))
        return command[0], why

    def test_random_commands(self):
        tried = {}
        for rng, listed in some_books(401, 120):
            book, model = Book(listed), Model(listed)
            for _ in range(26):
                told = self.check_command(book, model, random_command(rng, model))
                tried[told] = tried.get(told, 0) + 1
                if rng.random() < 0.1:
                    command = model.log[-1][0] if model.log else None
                    if model.log:
                        model.undo()
                    self.same(book.undo(), command)
                    self.same(tell(book), model.told())
        words = [("insert", why) for why in (None, "many", "missing", "change")]
        words += [(word, why) for word in ("remove", "move") for why in (None, "missing", "change")]
        words += [("lock", None), ("lock", "locked"), ("unlock", None), ("unlock", "open"), ("count", None)]
        self.same(sorted(tried, key=str), sorted(words, key=str))
        self.assertGreater(min(tried.values()), 10)

    def test_undoing_all(self):
        for rng, listed in some_books(402, 40):
            model = random_journal(rng, listed, rng.randint(0, 20))
            book = replayed(listed, tuple([command for command, _ in model.log]))
            while model.log:
                self.same(book.undo(), model.log[-1][0])
                model.undo()
                self.same(tell(book), model.told())
            self.same(tell(book), tell(Book(listed)))
            self.same(book.undo(), None)
            self.same(tell(book), tell(Book(listed)))

    def test_hits_and_misses_add_up(self):
        for rng, listed in some_books(403, 40):
            model = random_journal(rng, listed, 20)
            book = Book(listed)
            counted, gone = 0, 0
            for command, _ in model.log:
                if command[0] == "remove":
                    gone += book.hits()[command[1]]
                counted += command[0] == "count"
                book.act(command)
                self.same(sum(book.hits()) + book.misses() + gone, counted)

    def test_decided(self):
        for rng, listed in some_books(404, 40) + [(None, one) for one in EDGE_LISTS[:4]]:
            many = rng.randint(0, 20) if rng else 0
            model = random_journal(rng, listed, many)
            book = replayed(listed, tuple([command for command, _ in model.log]))
            before = tell(book)
            for case in all_cases(listed[0]):
                number, action = deciding(model.present(), ascending(model.present()), case)
                self.same(book.decided(case), (action, number))
            self.same(tell(book), before)

    def test_while_locked_every_case_is_decided_as_at_the_time_of_the_lock(self):
        tried = 0
        for rng, listed in some_books(405, 60):
            book, model = Book(listed), Model(listed)
            for _ in range(20):
                command = random_command(rng, model)
                if model.why_not(command) is None:
                    model.act(command)
                    book.act(command)
                    if model.at_lock:
                        tried += command[0] in REARRANGING
                        for case in all_cases(listed[0]):
                            number, action = deciding(model.at_lock, ascending(model.at_lock), case)
                            self.same(book.decided(case)[0], action)
        self.assertGreater(tried, 50)


class CommandTest(RowsTest):

    def test_a_new_book(self):
        for listed in EDGE_LISTS + (WIDEST, BOOK_LIST, EMPTY_LIST):
            book = Book(listed)
            self.same(tell(book), (listed, (0,) * len(listed[1]), 0, False, (), (), None))
            self.same(book.undo(), None)

    def test_insert(self):
        rule = (3, ((2, 2),))
        for place in range(4):
            book = Book(BOOK_LIST)
            book.act(("count", (4,)))
            book.act(("count", (7,)))
            self.same(book.act(("insert", place, rule)), 3)
            rules = BOOK_LIST[1][:place] + (rule,) + BOOK_LIST[1][place:]
            self.same(book.present(), ((8,), rules, 2))
            hits = [1, 1, 0]
            hits.insert(place, 0)
            self.same(book.hits(), tuple(hits))
        for place in (4, 5, 6, 7):
            self.not_possible("missing", Book(BOOK_LIST).act, ("insert", place, rule))
            self.not_possible("missing", Book(BOOK_LIST).change, ("insert", place, rule))
        book = Book(EMPTY_LIST)
        self.not_possible("missing", book.act, ("insert", 1, rule))
        for many in range(1, 8):
            self.same(book.act(("insert", many - 1, rule)), many)
        for place in (0, 7):
            self.not_possible("many", book.act, ("insert", place, rule))
            self.not_possible("many", book.change, ("insert", place, rule))
        self.same(book.present(), ((8,), (rule,) * 7, 1))

    def test_remove(self):
        for number in range(3):
            book = Book(BOOK_LIST)
            for case in ((1,), (6,), (6,), (0,)):
                book.act(("count", case))
            self.same(book.hits(), (1, 2, 0))
            book.act(("remove", number))
            self.same(book.present(), ((8,), BOOK_LIST[1][:number] + BOOK_LIST[1][number + 1:], 2))
            hits = [1, 2, 0]
            hits.pop(number)
            self.same(book.hits(), tuple(hits))
            self.same(book.misses(), 1)
        for number in (3, 4, 7):
            self.not_possible("missing", Book(BOOK_LIST).act, ("remove", number))
            self.not_possible("missing", Book(BOOK_LIST).change, ("remove", number))
        self.not_possible("missing", Book(EMPTY_LIST).act, ("remove", 0))

    def test_move(self):
        rules = tuple([(number, ((number, number),)) for number in range(4)])
        for number in range(4):
            for place in range(4):
                book = Book(((8,), rules, 5))
                for value in (1, 2, 2, 3, 3, 3):
                    book.act(("count", (value,)))
                book.act(("move", number, place))
                row = [other for other in range(4) if other != number]
                row.insert(place, number)
                self.same(book.present(), ((8,), tuple([rules[other] for other in row]), 5))
                self.same(book.hits(), tuple(row))
                self.same(book.present()[1][place], rules[number])
        for number, place in ((4, 0), (0, 4), (7, 7), (4, 4), (3, 4), (4, 3), (7, 0), (0, 7)):
            self.not_possible("missing", Book(((8,), rules, 5)).act, ("move", number, place))
            self.not_possible("missing", Book(((8,), rules, 5)).change, ("move", number, place))
        self.not_possible("missing", Book(EMPTY_LIST).act, ("move", 0, 0))
        self.same(Book(((8,), rules, 5)).act(("move", 2, 2)), 1)

    def test_lock_and_unlock(self):
        book = Book(BOOK_LIST)
        self.not_possible("open", book.act, ("unlock",))
        self.same(book.act(("lock",)), 1)
        self.same(book.is_locked(), True)
        self.not_possible("locked", book.act, ("lock",))
        self.same(book.act(("unlock",)), 2)
        self.same(book.is_locked(), False)
        self.not_possible("open", book.act, ("unlock",))
        self.same(book.act(("lock",)), 3)
        self.same(book.records(), ((("lock",), None), (("unlock",), None), (("lock",), None)))

    def test_count(self):
        book = Book(BOOK_LIST)
        for case, hits, misses in (((1,), (1, 0, 0), 0), ((5,), (2, 0, 0), 0), ((6,), (2, 1, 0), 0), ((0,), (2, 1, 0), 1),
                                   ((0,), (2, 1, 0), 2)):
            book.act(("count", case))
            self.same(book.hits(), hits)
            self.same(book.misses(), misses)
        self.same(book.records()[3:], ((("count", (0,)), (2, None)),) * 2)
        self.same(book.records()[:3], ((("count", (1,)), (1, 0)), (("count", (5,)), (1, 0)), (("count", (6,)), (1, 1))))

    def test_the_words_in_their_order(self):
        book = Book(SEVEN_ALIKE)
        book.act(("lock",))
        against = (5, ((0, 3), (0, 2)))
        # "many" comes ahead of "missing" and of "change"; "missing" ahead of "change".
        self.not_possible("many", book.act, ("insert", 0, against))
        self.not_possible("many", book.act, ("insert", 7, against))
        book.act(("remove", 6))
        self.not_possible("missing", book.act, ("insert", 7, against))
        self.not_possible("change", book.act, ("insert", 0, against))
        self.same(book.act(("insert", 6, RULE)), 3)
        locked = Book(BOOK_LIST)
        locked.act(("lock",))
        self.not_possible("missing", locked.act, ("remove", 3))
        self.not_possible("change", locked.act, ("remove", 0))
        self.not_possible("missing", locked.act, ("move", 2, 3))
        self.not_possible("missing", locked.act, ("move", 3, 0))
        self.not_possible("change", locked.act, ("move", 2, 0))
        self.same(locked.journal(), (("lock",),))


class LockTest(RowsTest):

    def test_what_changes_a_case_is_not_possible(self):
        book = Book(BOOK_LIST)
        book.act(("lock",))
        for command, change in ((("move", 2, 0), (5,)), (("remove", 0), (1,)), (("remove", 1), (6,)),
                                (("insert", 0, (0, ((3, 6),))), (3,)), (("insert", 3, (0, ((0, 0),))), (0,))):
            self.same(book.change(command), change)
            before = tell(book)
            self.not_possible("change", book.act, command)
            self.same(tell(book), before)
        for command in (("move", 2, 1), ("move", 1, 0), ("remove", 2), ("insert", 1, (1, ((4, 7),))),
                        ("insert", 0, (1, ((1, 7),))), ("insert", 3, (2, ((0, 7),))), ("move", 0, 0)):
            other = book.twin()
            self.same(book.change(command), None)
            self.same(other.act(command), 2)
            self.same(other.records()[1], (command, None))

    def test_a_change_of_the_decider_alone_does_not_matter(self):
        book = Book(((8,), ((1, ((0, 3),)), (1, ((2, 7),))), 0))
        book.act(("lock",))
        self.same(book.decided((2,)), (1, 0))
        self.same(book.change(("move", 0, 1)), None)
        book.act(("move", 0, 1))
        self.same(book.decided((2,)), (1, 0))
        self.same(book.decided((0,)), (1, 1))
        self.same(book.change(("remove", 1)), (0,))
        book.act(("insert", 0, (1, ((0, 7),))))
        self.same(book.decided((0,)), (1, 0))
        # A rule that the rest makes needless.
        other = Book(((8,), ((1, ((0, 3),)),), 1))
        other.act(("lock",))
        self.same(other.act(("remove", 0)), 2)
        self.same(other.decided((0,)), (1, None))

    def test_without_a_lock_a_change_is_told_and_carried_out(self):
        book = Book(BOOK_LIST)
        self.same(book.change(("move", 2, 0)), (5,))
        self.same(book.act(("move", 2, 0)), 1)
        self.same(book.records(), ((("move", 2, 0), (5,)),))
        self.same(book.changed(), (5,))
        # The change is compared with the present list, not with the first one.
        self.same(book.change(("move", 0, 2)), (5,))
        self.same(book.change(("remove", 0)), (5,))
        self.same(book.change(("move", 1, 2)), None)
        book.act(("move", 1, 2))
        self.same(book.records()[1], (("move", 1, 2), None))
        self.same(book.changed(), (5,))
        book.act(("remove", 0))
        self.same(book.records()[2], (("remove", 0), (5,)))
        self.same(book.changed(), None)

    def test_a_lock_behind_a_change(self):
        book = Book(BOOK_LIST)
        book.act(("remove", 0))
        book.act(("lock",))
        # The first list does not matter: what was at the time of the lock does.
        self.not_possible("change", book.act, ("insert", 0, BOOK_LIST[1][0]))
        self.same(book.changed(), (1,))
        self.same(book.act(("insert", 2, (2, ((1, 3),)))), 3)
        book.act(("unlock",))
        self.same(book.act(("insert", 0, BOOK_LIST[1][0])), 5)
        self.same(book.changed(), None)
        book.act(("lock",))
        self.not_possible("change", book.act, ("remove", 0))

    def test_undoing_a_lock_and_an_unlock(self):
        book = Book(BOOK_LIST)
        book.act(("lock",))
        book.act(("count", (0,)))
        self.same(book.undo(), ("count", (0,)))
        self.same(book.is_locked(), True)
        self.same(book.undo(), ("lock",))
        self.same(book.is_locked(), False)
        book.act(("lock",))
        book.act(("unlock",))
        self.same(book.undo(), ("unlock",))
        self.same(book.is_locked(), True)
        self.not_possible("change", book.act, ("move", 2, 0))
        self.not_possible("locked", book.act, ("lock",))


class UndoTest(RowsTest):

    def test_each_kind_of_command(self):
        for command in (("insert", 1, (3, ((2, 2),))), ("remove", 0), ("remove", 2), ("move", 0, 2), ("move", 1, 1),
                        ("count", (5,)), ("count", (0,)), ("lock",)):
            book = Book(BOOK_LIST)
            for case in ((1,), (6,), (6,), (0,)):
                book.act(("count", case))
            before = tell(book)
            self.same(book.act(command), 5)
            self.same(book.undo(), command)
            self.same(tell(book), before)
            self.same(book.act(command), 5)

    def test_the_hits_of_a_removed_rule_come_back(self):
        book = Book(BOOK_LIST)
        for _ in range(3):
            book.act(("count", (6,)))
        book.act(("remove", 1))
        self.same(book.hits(), (0, 0))
        book.act(("count", (6,)))
        self.same(book.misses(), 1)
        book.undo()
        book.undo()
        self.same(book.hits(), (0, 3, 0))
        self.same(book.misses(), 0)

    def test_an_empty_journal(self):
        book = Book(EMPTY_LIST)
        self.same([book.undo(), book.undo()], [None, None])
        book.act(("lock",))
        self.same([book.undo(), book.undo()], [("lock",), None])


class TooManyTest(RowsTest):

    def full(self):
        book = Book(BOOK_LIST)
        for many in range(1, 20):
            self.same(book.act(("count", (many % 8,))), many)
        self.same(book.act(("lock",)), 20)
        return book

    def test_twenty_commands_and_one_more(self):
        book = self.full()
        before = tell(book)
        for command in (("count", (0,)), ("unlock",), ("move", 2, 1), ("remove", 2), ("insert", 3, (2, ((0, 0),)))):
            self.too_large("commands", book.act, command)
            self.same(tell(book), before)
        self.same(len(book.journal()), 20)

    def test_other_errors_come_first(self):
        book = self.full()
        before = tell(book)
        self.not_possible("locked", book.act, ("lock",))
        self.not_possible("missing", book.act, ("remove", 3))
        self.not_possible("missing", book.act, ("insert", 4, (2, ((0, 0),))))
        self.not_possible("change", book.act, ("remove", 0))
        self.bad("command", book.act, ("remove", 8))
        self.bad("command", book.act, ("count", (8,)))
        self.same(tell(book), before)

    def test_a_full_book_tells_changes_and_can_be_undone(self):
        book = self.full()
        self.same(book.change(("remove", 0)), (1,))
        self.same(book.change(("move", 2, 1)), None)
        self.not_possible("missing", book.change, ("remove", 3))
        self.same(book.decided((5,)), (1, 0))
        self.too_large("commands", book.twin().act, ("count", (0,)))
        self.same(book.undo(), ("lock",))
        self.same(book.act(("count", (0,))), 20)
        self.too_large("commands", book.act, ("count", (0,)))


class TwinTest(RowsTest):

    def test_a_twin_tells_the_same(self):
        for rng, listed in some_books(406, 40):
            model = random_journal(rng, listed, rng.randint(0, 20))
            book = replayed(listed, tuple([command for command, _ in model.log]))
            twin = book.twin()
            self.assertIsNot(twin, book)
            self.assertIs(type(twin), Book)
            self.same(tell(twin), model.told())

    def test_what_is_done_to_the_one_does_not_change_the_other(self):
        for rng, listed in some_books(407, 40):
            model = random_journal(rng, listed, rng.randint(0, 16))
            book = replayed(listed, tuple([command for command, _ in model.log]))
            twin = book.twin()
            ahead = tell(book)
            for one, other in ((book, twin), (twin, book)):
                one.act(("count", all_cases(listed[0])[0]))
                one.act(("move", 0, 0) if one.present()[1] else ("insert", 0, (listed[2], ((0, 0),) * len(listed[0]))))
                self.same(tell(other), ahead)
                one.undo()
                one.undo()
                self.same(tell(one), ahead)
            many = len(book.journal())
            while twin.undo() is not None:
                self.same(tell(book), ahead)
            self.same(len(book.journal()), many)
            self.same(tell(twin), tell(Book(listed)))

    def test_twins_of_twins(self):
        book = Book(BOOK_LIST)
        book.act(("count", (5,)))
        twin = book.twin()
        twin.act(("count", (5,)))
        third = twin.twin()
        third.act(("remove", 0))
        self.same([one.hits() for one in (book, twin, third)], [(1, 0, 0), (2, 0, 0), (0, 0)])
        third.undo()
        third.undo()
        self.same(tell(third), tell(book))


class WrongTest(RowsTest):

    def test_lists(self):
        self.check_arguments(Book, ("listed", LISTED, NOT_LISTS))
        self.bad("listed", Book, deep())

    def test_commands(self):
        for full in (False, True):
            book = Book(LISTED)
            for _ in range(20 if full else 3):
                book.act(("count", (0, 0)))
            before = tell(book)
            for command in NOT_COMMANDS:
                self.bad("command", book.act, command)
                self.bad("command", book.change, command)
            self.same(tell(book), before)

    def test_other_commands_have_no_change(self):
        book = Book(LISTED)
        for command in OTHER_COMMANDS:
            self.bad("command", book.change, command)
        book.act(("lock",))
        for command in OTHER_COMMANDS:
            self.bad("command", book.change, command)
        self.same(book.journal(), (("lock",),))

    def test_the_form_is_checked_before_what_is_possible(self):
        book = Book(SEVEN_ALIKE)
        self.bad("command", book.act, ("insert", 8, RULE))
        self.bad("command", book.change, ("insert", 0, (6, RULE[1])))
        self.not_possible("many", book.change, ("insert", 7, RULE))
        self.not_possible("missing", book.change, ("remove", 7))
        empty = Book(((4, 3), (), 0))
        for command in NOT_REARRANGEMENTS:
            self.bad("command", empty.act, command)
            self.bad("command", empty.change, command)

    def test_cases(self):
        book = Book(LISTED)
        for case in NOT_CASES:
            self.bad("case", book.decided, case)
            self.bad("command", book.act, ("count", case))
        self.same(book.decided((3, 2)), (2, 1))

    def test_very_deep_values(self):
        down = deep()
        book = Book(BOOK_LIST)
        for command in (down, (down,), ("count", down), ("count", (down,)), ("remove", down), (down, 0), ("move", 0, down),
                        ("insert", 0, down), ("insert", 0, (1, down)), ("insert", 0, (1, (down,)))):
            self.bad("command", book.act, command)
            self.bad("command", book.change, command)
        self.bad("case", book.decided, down)
        self.bad("case", book.decided, (down,))


class AllTest(RowsTest):

    def test_the_class_and_its_methods_stand_in_their_file(self):
        self.assertEqual(Book.__module__, "rulerows.book")
        self.assertIs(book_file.Book, Book)
        for name in ("act", "undo", "present", "hits", "misses", "is_locked", "journal", "decided", "change", "changed",
                     "records", "twin"):
            self.assertIn(name, vars(Book))

    def test_a_book_is_told_by_its_list_and_its_journal(self):
        for rng, listed in some_books(408, 30):
            model = random_journal(rng, listed, rng.randint(0, 20))
            book = Book(listed)
            for command, _ in model.log:
                book.act(command)
            # What is asked of it changes nothing.
            for command, _ in model.log:
                if command[0] in REARRANGING and model.change(command)[0] is None:
                    book.change(command)
            book.twin().undo()
            self.same(tell(book), model.told())
            self.same(tell(replayed(listed, book.journal())), tell(book))

    def test_example_of_point_126(self):
        book = Book(BOOK_LIST)
        book.act(("lock",))
        self.same(book.change(("move", 2, 0)), (5,))
        self.not_possible("change", book.act, ("move", 2, 0))
        self.same(book.act(("move", 2, 1)), 2)

    def test_examples_of_the_interface(self):
        self.check_examples("""
>>> from rulerows.book import Book
>>> book = Book(((8,), ((1, ((1, 5),)), (1, ((4, 7),)), (2, ((5, 5),))), 2))
>>> book.act(("lock",)), book.act(("move", 2, 1)), book.change(("move", 1, 0)), book.change(("remove", 1))
(1, 2, (5,), None)
>>> book.present()[1], book.act(("count", (5,))), book.act(("count", (0,))), book.hits(), book.misses(), book.decided((6,))
(((1, ((1, 5),)), (2, ((5, 5),)), (1, ((4, 7),))), 3, 4, (1, 0, 0), 1, (1, 2))
>>> book.records()[1:]
((('move', 2, 1), None), (('count', (5,)), (1, 0)), (('count', (0,)), (2, None)))
>>> book.act(("unlock",)), book.act(("move", 1, 0)), book.changed(), book.undo(), book.changed()
(5, 6, (5,), ('move', 1, 0), None)
""")


if __name__ == "__main__":
    unittest.main()
