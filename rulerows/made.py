"""Lists that are made from others, and how they are compared."""

from rulerows.deciding import action_for, all_cases, ascending_row
from rulerows.forms import is_listed, is_number, is_row, need


def without(listed, number):
    """The list without the rule."""
    need(is_listed(listed), "listed")
    need(is_number(listed, number), "number")
    widths, rules, rest = listed
    return (widths, rules[:number] + rules[number + 1:], rest)


def put_in_row(listed, row):
    """The list with its rules in the sequence of the row."""
    need(is_listed(listed), "listed")
    need(is_row(listed, row), "row")
    widths, rules, rest = listed
    return (widths, tuple([rules[number] for number in row]), rest)


def other_case(first, second):
    """The first case that the ascending rows of the lists decide differently, or None."""
    need(is_listed(first), "first")
    need(is_listed(second) and second[0] == first[0], "second")
    first_row = ascending_row(first)
    second_row = ascending_row(second)
    for case in all_cases(first[0]):
        if action_for(first, first_row, case) != action_for(second, second_row, case):
            return case
    return None
