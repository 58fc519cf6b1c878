"""Rules that hold each other back, each with a case that it may not decide, for checked arguments."""

from rulerows.deciding import ascending_row, have_common, matching_set
from rulerows.forms import is_case, is_number, is_tuple
from rulerows.goals import wanted_of


def case_against(listed, regions, placed, number):
    """The first wanted case that the rule would decide wrongly after the placed ones, or None."""
    for case, matching, action in regions:
        if number in matching and action != listed[1][number][0] and not have_common(matching, placed):
            return case
    return None


def blocking_pairs(listed, regions, placed, spared):
    """All other rules than the placed and the spared ones, each with the first case against it.

    None of these rules is ready after the placed ones.
    """
    left = [number for number in ascending_row(listed) if number not in placed and number not in spared]
    return tuple([(number, case_against(listed, regions, placed, number)) for number in left])


def is_rule_with_case(listed, value):
    """True if the value is a pair of the number of a rule and a case."""
    if not is_tuple(value, 2, 2):
        return False
    number, case = value
    return is_number(listed, number) and is_case(listed[0], case)


def is_held_back(listed, wanted, pair, allowed):
    """True if the rule may not decide the case, and none but the allowed rules match it."""
    number, case = pair
    action = wanted_of(listed, wanted, case)
    if action is None or action == listed[1][number][0]:
        return False
    matching = matching_set(listed[1], case)
    return number in matching and all([other in allowed for other in matching])


def is_blocking(listed, wanted, spared, value):
    """True if the value has a pair, at least one, for each of several rules that hold each other back.

    Beside these rules only the spared ones may match the cases of the pairs.
    """
    if not is_tuple(value, 1, len(listed[1])) or not all([is_rule_with_case(listed, item) for item in value]):
        return False
    numbers = [number for number, _ in value]
    if numbers != sorted(set(numbers)):
        return False
    return all([is_held_back(listed, wanted, pair, (*numbers, *spared)) for pair in value])
