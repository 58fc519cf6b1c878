"""Rules that decide nothing, rules that can go, and the fewest rules that decide alike."""

from rulerows.deciding import action_for, all_cases, ascending_row, first_fitting, rule_matches
from rulerows.forms import is_case, is_listed, is_number, is_numbers, is_set_ahead, need
from rulerows.goals import wrong_case
from rulerows.shortening import first_hiding, others_than, own_regions, sets_by_size, shortest_alike


def first_case_against(listed, short):
    """The first case against the short row, or None if it decides alike."""
    need(is_listed(listed), "listed")
    need(is_numbers(listed, short), "short")
    return wrong_case(listed, own_regions(listed), short)


def is_against(listed, short, value):
    """True if the value is a case against the short row, otherwise False."""
    need(is_listed(listed), "listed")
    need(is_numbers(listed, short), "short")
    if not is_case(listed[0], value):
        return False
    return action_for(listed, short, value) != action_for(listed, ascending_row(listed), value)


def idle(listed):
    """The idle rules, ascending."""
    need(is_listed(listed), "listed")
    return tuple([number for number in ascending_row(listed) if own_case(listed, number) is None])


def own_case(listed, number):
    """The first case that the rule decides, or None if it is idle."""
    need(is_listed(listed), "listed")
    need(is_number(listed, number), "number")
    return first_fitting(listed, (number,), tuple(range(number)))


def can_go(listed):
    """The rules that can go, each one alone, ascending."""
    need(is_listed(listed), "listed")
    return tuple([number for number in ascending_row(listed) if needing_case(listed, number) is None])


def needing_case(listed, number):
    """The first case that is decided otherwise without the rule, or None if it can go."""
    need(is_listed(listed), "listed")
    need(is_number(listed, number), "number")
    return first_case_against(listed, others_than(listed, number))


def smallest_set(listed):
    """The first of the sets with the fewest rules that, ascending, decide alike."""
    need(is_listed(listed), "listed")
    regions = own_regions(listed)
    sets = sets_by_size(ascending_row(listed))
    return [chosen for chosen in sets if wrong_case(listed, regions, chosen) is None][0]


def shortest_row(listed):
    """The first of the short rows with the fewest rules that decide alike."""
    need(is_listed(listed), "listed")
    return shortest_alike(listed, own_regions(listed), sets_by_size(ascending_row(listed)))


def hides(listed, number, chosen):
    """True if the set hides the rule, otherwise False."""
    return shown_case(listed, number, chosen) is None


def shown_case(listed, number, chosen):
    """The first case that the rule matches, but none of the set, or None if the set hides it."""
    need(is_listed(listed), "listed")
    need(is_number(listed, number), "number")
    need(is_set_ahead(listed, number, chosen), "chosen")
    return first_fitting(listed, (number,), chosen)


def smallest_hiding(listed, number):
    """The first of the sets with the fewest rules that hide the rule, or None if it is not idle."""
    need(is_listed(listed), "listed")
    need(is_number(listed, number), "number")
    return first_hiding(listed, number, sets_by_size(tuple(range(number))))


def merged(listed, number):
    """The merged rule of the rule with this number and the next one, or None."""
    need(is_listed(listed), "listed")
    need(is_number(listed, number) and number + 1 < len(listed[1]), "number")
    one, next_one = listed[1][number], listed[1][number + 1]
    if one[0] != next_one[0]:
        return None
    # No other rule but the one around both can match what they match, and nothing else.
    around = tuple([(min(mine[0], its[0]), max(mine[1], its[1])) for mine, its in zip(one[1], next_one[1])])
    rule = (one[0], around)
    for case in all_cases(listed[0]):
        if rule_matches(rule, case) and not rule_matches(one, case) and not rule_matches(next_one, case):
            return None
    return rule
