"""Books that are replayed from journals, and the judge of records."""

from rulerows.book import Book
from rulerows.commands import carried_out, is_command, is_journal, new_state
from rulerows.errors import NotPossible
from rulerows.forms import is_case, is_integer, is_listed, is_tuple, need


def replayed(listed, journal):
    """The book that has carried out the commands of the journal."""
    need(is_listed(listed), "listed")
    need(is_journal(listed[0], journal), "journal")
    book = Book(listed)
    for command in journal:
        book.act(command)
    return book


def are_right(listed, records):
    """True if the records are right for the list, otherwise False."""
    need(is_listed(listed), "listed")
    if not is_tuple(records, 0, 20):
        return False
    state = new_state(listed)
    for record in records:
        if not is_record(listed[0], record):
            return False
        command, told = record
        try:
            state, value = carried_out(state, command)
        except NotPossible:
            return False
        if told != value:
            return False
    return True


def is_record(widths, value):
    """True if the value is a pair of a command and a value that it may have in some book."""
    if not is_tuple(value, 2, 2) or not is_command(widths, value[0]):
        return False
    command, told = value
    if command[0] == "count":
        return is_decided_pair(told)
    return told is None or is_case(widths, told)


def is_decided_pair(value):
    """True if the value is a pair of an action and of the number of a rule, or None."""
    if not is_tuple(value, 2, 2):
        return False
    action, number = value
    return is_integer(action, 0, 5) and (number is None or is_integer(number, 0, 6))
