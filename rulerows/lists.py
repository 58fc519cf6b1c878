"""Lists of rules, and what their rows decide."""

from rulerows.deciding import action_for, all_cases, first_match, matching_set, rule_matches
from rulerows.forms import is_case, is_listed, is_number, is_row, need


def is_list(value):
    """True if the value is a list, otherwise False."""
    return is_listed(value)


def matches(listed, number, case):
    """True if the rule matches the case, otherwise False."""
    need(is_listed(listed), "listed")
    need(is_number(listed, number), "number")
    need(is_case(listed[0], case), "case")
    return rule_matches(listed[1][number], case)


def decision(listed, row, case):
    """The action by which the row decides the case."""
    need(is_listed(listed), "listed")
    need(is_row(listed, row), "row")
    need(is_case(listed[0], case), "case")
    return action_for(listed, row, case)


def decider(listed, row, case):
    """The number of the rule by which the case is decided, or None."""
    need(is_listed(listed), "listed")
    need(is_row(listed, row), "row")
    need(is_case(listed[0], case), "case")
    return first_match(listed, row, case)


def shares(listed, row):
    """How many cases each rule decides, and behind them how many no rule matches."""
    need(is_listed(listed), "listed")
    need(is_row(listed, row), "row")
    counts = [0] * (len(row) + 1)
    for case in all_cases(listed[0]):
        number = first_match(listed, row, case)
        if number is None:
            number = len(row)
        counts[number] += 1
    return tuple(counts)


def first_difference(listed, first, second):
    """The first case that the two rows decide by different actions, or None."""
    need(is_listed(listed), "listed")
    need(is_row(listed, first), "first")
    need(is_row(listed, second), "second")
    for case in all_cases(listed[0]):
        if action_for(listed, first, case) != action_for(listed, second, case):
            return case
    return None


def regions(listed):
    """Each set of rules that match a case together, with the number of its cases."""
    need(is_listed(listed), "listed")
    counts = {}
    for case in all_cases(listed[0]):
        matching = matching_set(listed[1], case)
        counts[matching] = counts.get(matching, 0) + 1
    return tuple(sorted(counts.items()))
