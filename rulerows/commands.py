"""The commands for books, and what they do, for arguments that are checked already.

The state of a book is a tuple of its present list, the hits of its rules, its misses, and
whether it is locked.
"""

from rulerows.deciding import action_for, ascending_row, first_match
from rulerows.errors import NotPossible
from rulerows.forms import is_case, is_integer, is_rule, is_tuple
from rulerows.made import other_case


def is_index(value):
    """True if the value can be a place or a number in a command."""
    return is_integer(value, 0, 7)


def is_rearrangement(widths, value):
    """True if the value is an insert, a remove or a move for these widths."""
    if not is_tuple(value, 2, 3):
        return False
    word = value[0]
    if word == "insert":
        return len(value) == 3 and is_index(value[1]) and is_rule(widths, value[2])
    if word == "move":
        return len(value) == 3 and is_index(value[1]) and is_index(value[2])
    return word == "remove" and len(value) == 2 and is_index(value[1])


def is_command(widths, value):
    """True if the value is a command for these widths."""
    if is_tuple(value, 1, 1):
        return value[0] == "lock" or value[0] == "unlock"
    if is_tuple(value, 2, 2) and value[0] == "count":
        return is_case(widths, value[1])
    return is_rearrangement(widths, value)


def is_journal(widths, value):
    """True if the value is a tuple of commands that a journal can have."""
    return is_tuple(value, 0, 20) and all([is_command(widths, item) for item in value])


def new_state(listed):
    """The state of a new book with this list."""
    return (listed, (0,) * len(listed[1]), 0, False)


def decided_pair(listed, case):
    """The decision of the case and the number of the rule that decides it, or None."""
    row = ascending_row(listed)
    return (action_for(listed, row, case), first_match(listed, row, case))


def need_rules(listed, command):
    """Raise NotPossible unless the list has room, or the rules, for an insert, a remove or a move."""
    many = len(listed[1])
    if command[0] == "insert":
        if many == 7:
            raise NotPossible("many")
        if command[1] > many:
            raise NotPossible("missing")
    elif max(command[1:]) >= many:
        raise NotPossible("missing")


def rearranged(items, command, added):
    """The items behind an insert, which puts the added one in, a remove or a move."""
    at = command[1]
    if command[0] == "insert":
        return (*items[:at], added, *items[at:])
    left = (*items[:at], *items[at + 1:])
    if command[0] == "remove":
        return left
    place = command[2]
    return (*left[:place], items[at], *left[place:])


def list_behind(listed, command):
    """The list that comes by an insert, a remove or a move; raise NotPossible if there is none."""
    need_rules(listed, command)
    widths, rules, rest = listed
    # Only an insert adds something: the rule, which is its last item.
    return (widths, rearranged(rules, command, command[-1]), rest)


def change_of(listed, command):
    """The first case that an insert, a remove or a move lets be decided otherwise, or None."""
    return other_case(listed, list_behind(listed, command))


def carried_out(state, command):
    """The state behind the command, and the value that its record has; raise NotPossible if it is not possible."""
    if command[0] == "count":
        return counted(state, command[1])
    if command[0] == "lock" or command[0] == "unlock":
        return turned(state, command[0] == "lock"), None
    listed, hits, misses, locked = state
    behind = list_behind(listed, command)
    change = other_case(listed, behind)
    # What is locked is decided as at the time of the lock, so the present list can stand for that one.
    if locked and change is not None:
        raise NotPossible("change")
    return (behind, rearranged(hits, command, 0), misses, locked), change


def turned(state, lock):
    """The state behind a lock, or behind an unlock."""
    listed, hits, misses, locked = state
    if locked and lock:
        raise NotPossible("locked")
    if not locked and not lock:
        raise NotPossible("open")
    return (listed, hits, misses, lock)


def counted(state, case):
    """The state behind the counting of the case, and what decides it."""
    listed, hits, misses, locked = state
    pair = decided_pair(listed, case)
    number = pair[1]
    if number is None:
        return (listed, hits, misses + 1, locked), pair
    more = (*hits[:number], hits[number] + 1, *hits[number + 1:])
    return (listed, more, misses, locked), pair
