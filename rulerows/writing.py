"""The texts of lists, rows and cases."""

from rulerows.forms import is_case, is_listed, is_row, need


def list_text(listed):
    """The text of the list."""
    need(is_listed(listed), "listed")
    widths, rules, rest = listed
    parts = [numbers_text(widths) + ":"]
    parts.extend([rule_text(widths, rule) + ";" for rule in rules])
    parts.append("else " + str(rest))
    return " ".join(parts)


def row_text(listed, row):
    """The text of the row."""
    need(is_listed(listed), "listed")
    need(is_row(listed, row), "row")
    return numbers_text(row)


def case_text(listed, case):
    """The text of the case."""
    need(is_listed(listed), "listed")
    need(is_case(listed[0], case), "case")
    return numbers_text(case)


def numbers_text(numbers):
    return " ".join([str(number) for number in numbers])


def rule_text(widths, rule):
    """The text of the rule, without the `;` behind it."""
    action, ranges = rule
    fields = [range_text(width, ends) for width, ends in zip(widths, ranges)]
    return " ".join([str(action), "if", *fields])


def range_text(width, ends):
    """The text of the range of a field of this width."""
    low, high = ends
    if low == 0 and high == width - 1:
        return "*"
    if low == high:
        return str(low)
    return str(low) + ".." + str(high)
