"""What the tests of books share: a plain model of a book, commands to try, and wrong ones."""

import random

from tests.support import (
    NOT_CASES, NOT_LISTS, ODD_VALUES, RULE, all_cases, ascending, deciding, random_list, random_rule,
)

# All of these are wrong for LISTED, as commands and as parts of them.
NOT_INDEXES_7 = (8, 9, -1, 10 ** 30, True, False, None, "0", "", (), (0,), [0], [])
NOT_RULES = tuple([listed[1][1] for listed in NOT_LISTS if type(listed) is tuple and len(listed) == 3
                   and listed[0] == (4, 3) and listed[2] == 0 and type(listed[1]) is tuple and len(listed[1]) == 3
                   and listed[1][0] == RULE])
NOT_REARRANGEMENTS = tuple([value for value in ODD_VALUES]) + (
    ("insert",), ("insert", 0), ("insert", 0, RULE, 0), ("insert", RULE, 0), ["insert", 0, RULE], ("Insert", 0, RULE),
    ("insert", 0, list(RULE)), ("insert", 0, 0), ("remove",), ("remove", 0, 0), ["remove", 0], ("remove", (0,)),
    ("Remove", 0), ("move",), ("move", 0), ("move", 0, 0, 0), ["move", 0, 1], ("move", (0, 1)), (0, "remove"), ("add", 0),
    (0, 1, "move"), ("", 0), ("", 0, 0), (None, 0), ("remove", 0, RULE), ("move", 0, RULE), ("insert", 0, 1), "remove",
    (("remove", 0),), (("remove",), 0), ((), 0), ("count",), ("lock", 0), ("unlock", 0), ("lock", ()), ("Lock",), ["lock"],
    ("lock", "unlock"), (("lock",),), (None,), "lock", "unlock", ("locked",), ("undo",), ["unlock"], ("count", (0, 0), 0),
    ["count", (0, 0)], ("count", 0, 0), ("Count", (0, 0)), ((0, 0), "count"), ("count", RULE), ("lock", (0, 0)),
    ("insert", 0, RULE, RULE), ("remove", 0, 0, 0),
) + tuple([("insert", wrong, RULE) for wrong in NOT_INDEXES_7]) + tuple([("remove", wrong) for wrong in NOT_INDEXES_7]) + tuple(
    [("move", wrong, 0) for wrong in NOT_INDEXES_7]) + tuple([("move", 0, wrong) for wrong in NOT_INDEXES_7]) + tuple(
    [("insert", 0, wrong) for wrong in NOT_RULES])
NOT_COMMANDS = NOT_REARRANGEMENTS + tuple([("count", wrong) for wrong in NOT_CASES])
OTHER_COMMANDS = (("lock",), ("unlock",), ("count", (0, 0)), ("count", (3, 2)))


def first_otherwise(one, other):
    """The first case that the ascending rows of two lists decide by different actions, or None."""
    for case in all_cases(one[0]):
        if deciding(one, ascending(one), case)[1] != deciding(other, ascending(other), case)[1]:
            return case
    return None


class Model:
    """A book by the words of points 116 to 123; it undoes by beginning anew."""

    def __init__(self, listed):
        self.first = listed
        self.rules = [[rule, 0] for rule in listed[1]]
        self.missed = 0
        self.at_lock = None
        self.log = []

    def present(self):
        return (self.first[0], tuple([rule for rule, _ in self.rules]), self.first[2])

    def behind(self, command):
        """The rules behind a rearrangement, or the word why there are none."""
        rules = [list(entry) for entry in self.rules]
        if command[0] == "insert":
            if len(rules) == 7:
                return "many"
            if command[1] > len(rules):
                return "missing"
            rules.insert(command[1], [command[2], 0])
        elif command[1] >= len(rules) or command[-1] >= len(rules):
            return "missing"
        else:
            entry = rules.pop(command[1])
            if command[0] == "move":
                rules.insert(command[2], entry)
        return rules

    def change(self, command):
        """The pair of a word, if there is no list behind the command, and of the change."""
        rules = self.behind(command)
        if isinstance(rules, str):
            return rules, None
        return None, first_otherwise(self.present(), (self.first[0], tuple([rule for rule, _ in rules]), self.first[2]))

    def why_not(self, command):
        """The word why the command is not possible, or None."""
        if command[0] == "lock":
            return "locked" if self.at_lock else None
        if command[0] == "unlock":
            return None if self.at_lock else "open"
        if command[0] == "count":
            return None
        rules = self.behind(command)
        if isinstance(rules, str):
            return rules
        told = (self.first[0], tuple([rule for rule, _ in rules]), self.first[2])
        if self.at_lock and first_otherwise(self.at_lock, told) is not None:
            return "change"
        return None

    def value(self, command):
        if command[0] == "count":
            number, action = deciding(self.present(), ascending(self.present()), command[1])
            return (action, number)
        if command[0] in ("lock", "unlock"):
            return None
        return self.change(command)[1]

    def act(self, command):
        self.log.append((command, self.value(command)))
        if command[0] == "lock":
            self.at_lock = self.present()
        elif command[0] == "unlock":
            self.at_lock = None
        elif command[0] == "count":
            number = self.value(command)[1]
            if number is None:
                self.missed += 1
            else:
                self.rules[number][1] += 1
        else:
            self.rules = self.behind(command)

    def undo(self):
        log = self.log[:-1]
        self.__init__(self.first)
        for command, _ in log:
            self.act(command)

    def told(self):
        """All that a book tells of itself."""
        present = self.present()
        return (
            present, tuple([hits for _, hits in self.rules]), self.missed, self.at_lock is not None,
            tuple([command for command, _ in self.log]), tuple(self.log), first_otherwise(self.first, present),
        )


def tell(book):
    """The same of a book."""
    return (
        book.present(), book.hits(), book.misses(), book.is_locked(), book.journal(), book.records(), book.changed(),
    )


def random_command(rng, model):
    """A command that is mostly possible."""
    widths, rules, _ = model.present()
    word = rng.choice(("insert", "insert", "remove", "move", "move", "move", "count", "count", "count", "lock", "unlock"))
    many = len(rules)
    index = rng.randrange(8) if many == 0 or rng.random() < 0.1 else rng.randrange(many)
    if word == "insert":
        rule = rng.choice(rules) if rules and rng.random() < 0.4 else random_rule(rng, widths, 3)
        return (word, rng.randrange(8) if rng.random() < 0.1 else rng.randint(0, many), rule)
    if word == "remove":
        return (word, index)
    if word == "move":
        return (word, index, rng.randrange(8) if many == 0 or rng.random() < 0.1 else rng.randrange(many))
    if word == "count":
        return (word, rng.choice(all_cases(widths)))
    return (word,)


def some_books(seed, many, most_rules=6, most_cases=24):
    """Pairs of a random source and a list to begin with; some of the rules stand there twice."""
    rng = random.Random(seed)
    found = []
    for _ in range(many):
        widths, rules, rest = random_list(rng, most_rules, most_cases)
        if rules and len(rules) < 6 and rng.random() < 0.5:
            rules += (rng.choice(rules),)
        found.append((random.Random(rng.random()), (widths, rules, rest)))
    return found


def random_journal(rng, listed, many):
    """A model that has carried out so many possible commands."""
    model = Model(listed)
    while len(model.log) < many:
        command = random_command(rng, model)
        if model.why_not(command) is None:
            model.act(command)
    return model


BOOK_LIST = ((8,), ((1, ((1, 5),)), (1, ((4, 7),)), (2, ((5, 5),))), 2)
EMPTY_LIST = ((8,), (), 1)
