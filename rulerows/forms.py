"""Which values have the form that an argument needs.

Each function takes every value, also one that is nested very deep: an item
is looked at only after its kind is known, and no deeper than the form goes.
"""

from rulerows.errors import BadValue


def need(holds, name):
    """Raise BadValue with the name of an argument unless its form holds."""
    if not holds:
        raise BadValue(name)


def is_whole(value):
    """True if the value is an integer, of whatever size."""
    # To Python, True and False are integers, too.
    return isinstance(value, int) and not isinstance(value, bool)


def is_integer(value, low, high):
    """True if the value is an integer from low to high."""
    return is_whole(value) and low <= value <= high


def is_tuple(value, fewest, most):
    """True if the value is a tuple with so many items."""
    return isinstance(value, tuple) and fewest <= len(value) <= most


def is_action(value):
    return is_integer(value, 0, 5)


def is_widths(value):
    return is_tuple(value, 1, 3) and all([is_integer(width, 1, 8) for width in value])


def is_case(widths, value):
    """True if the value is a case of these widths."""
    if not is_tuple(value, len(widths), len(widths)):
        return False
    return all([is_integer(item, 0, width - 1) for item, width in zip(value, widths)])


def is_range(width, value):
    """True if the value is a range of a field of this width."""
    if not is_tuple(value, 2, 2):
        return False
    low, high = value
    return is_integer(low, 0, width - 1) and is_integer(high, low, width - 1)


def is_rule(widths, value):
    """True if the value is a rule for these widths."""
    if not is_tuple(value, 2, 2):
        return False
    action, ranges = value
    if not is_action(action) or not is_tuple(ranges, len(widths), len(widths)):
        return False
    return all([is_range(width, item) for item, width in zip(ranges, widths)])


def is_listed(value):
    """True if the value is a list in the document's sense."""
    if not is_tuple(value, 3, 3):
        return False
    widths, rules, rest = value
    if not is_widths(widths) or not is_tuple(rules, 0, 7):
        return False
    return all([is_rule(widths, rule) for rule in rules]) and is_action(rest)


def is_number(listed, value):
    """True if the value is the number of a rule of the list."""
    return is_integer(value, 0, len(listed[1]) - 1)


def is_other_number(listed, number, value):
    """True if the value is the number of another rule than this one."""
    return is_number(listed, value) and value != number


def is_place(listed, value):
    """True if the value is an index of a row of the list."""
    return is_integer(value, 0, len(listed[1]) - 1)


def is_position(listed, value):
    """True if the value is a position of a row at which a swap can be made."""
    return is_integer(value, 0, len(listed[1]) - 2)


def is_positions(listed, value, fewest, most):
    """True if the value is a tuple of so many positions at which swaps can be made."""
    return is_tuple(value, fewest, most) and all([is_position(listed, item) for item in value])


def is_numbers(listed, value):
    """True if the value is a tuple of different numbers of rules of the list."""
    if not is_tuple(value, 0, len(listed[1])):
        return False
    return all([is_number(listed, item) for item in value]) and len(set(value)) == len(value)


def is_row(listed, value):
    return is_numbers(listed, value) and len(value) == len(listed[1])


def is_set(listed, value):
    """True if the value is a set of rules of the list."""
    return is_numbers(listed, value) and list(value) == sorted(value)


def is_set_ahead(listed, number, value):
    """True if the value is a set of rules with lower numbers than this one."""
    return is_set(listed, value) and all([other < number for other in value])


def is_pair(widths, value):
    """True if the value is a pair of a case and an action."""
    if not is_tuple(value, 2, 2):
        return False
    case, action = value
    return is_case(widths, case) and is_action(action)


def is_pairs(widths, value):
    """True if the value is a tuple of pairs by which actions can be wanted."""
    if not is_tuple(value, 0, 12) or not all([is_pair(widths, item) for item in value]):
        return False
    cases = [case for case, _ in value]
    return cases == sorted(set(cases))


def is_weight(widths, value):
    """True if the value is a pair of a case and a weight."""
    if not is_tuple(value, 2, 2):
        return False
    case, weight = value
    return is_case(widths, case) and is_integer(weight, 0, 1000)


def is_weights(listed, value):
    """True if the value is a tuple of pairs by which rows of the list cost something."""
    return is_tuple(value, 0, 12) and all([is_weight(listed[0], item) for item in value])


def is_goal(listed, value):
    """True if the value is something wanted of the list."""
    if is_tuple(value, 1, 1):
        return value[0] == "self"
    if not is_tuple(value, 2, 2):
        return False
    word, told = value
    if word == "list":
        return is_listed(told) and told[0] == listed[0]
    return word == "cases" and is_pairs(listed[0], told)


def is_text(value):
    """True if the value is a string that can be scanned."""
    return isinstance(value, str) and len(value) <= 400 and "\n" not in value
