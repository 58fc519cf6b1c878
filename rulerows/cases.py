"""The cases that fit two sets of rules: all of the first one match, none of the second."""

from rulerows.deciding import fitting_cases
from rulerows.forms import is_case, is_integer, is_listed, is_set, need


def count_cases(listed, chosen, avoided):
    """The number of the fitting cases."""
    need(is_listed(listed), "listed")
    need(is_set(listed, chosen), "chosen")
    need(is_set(listed, avoided), "avoided")
    return len(fitting_cases(listed, chosen, avoided))


def nth_case(listed, chosen, avoided, index):
    """The fitting case with the index."""
    need(is_listed(listed), "listed")
    need(is_set(listed, chosen), "chosen")
    need(is_set(listed, avoided), "avoided")
    fitting = fitting_cases(listed, chosen, avoided)
    need(is_integer(index, 0, len(fitting) - 1), "index")
    return fitting[index]


def index_of_case(listed, chosen, avoided, case):
    """The index of the case among the fitting ones, or None if it does not fit."""
    need(is_listed(listed), "listed")
    need(is_set(listed, chosen), "chosen")
    need(is_set(listed, avoided), "avoided")
    need(is_case(listed[0], case), "case")
    fitting = fitting_cases(listed, chosen, avoided)
    if case not in fitting:
        return None
    return fitting.index(case)
