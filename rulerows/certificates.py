"""Certificates that there is a right row, or that there is none, and their judge."""

from rulerows.blocking import blocking_pairs, is_blocking
from rulerows.checks import need_goal
from rulerows.deciding import action_for, ascending_row, matching_set
from rulerows.forms import is_case, is_row, is_tuple
from rulerows.goals import goal_regions, unmet_case, wanted_of, wanted_pairs
from rulerows.placing import place_rules


def certificate(listed, wanted):
    """The told certificate."""
    need_goal(listed, wanted)
    regions = goal_regions(listed, wanted)
    loose = unmet_case(listed, regions)
    if loose is not None:
        return ("loose", loose)
    placed = place_rules(listed, regions, (), ascending_row(listed))
    if len(placed) == len(listed[1]):
        return ("row", placed)
    return ("blocked", blocking_pairs(listed, regions, placed, ()))


def accepts(listed, wanted, value):
    """True if the value is a certificate, otherwise False."""
    need_goal(listed, wanted)
    if not is_tuple(value, 2, 2):
        return False
    word, told = value
    if word == "row":
        return is_row(listed, told) and decides_as_wanted(listed, wanted, told)
    if word == "blocked":
        return is_blocking(listed, wanted, (), told)
    return word == "loose" and is_case(listed[0], told) and is_loose(listed, wanted, told)


def decides_as_wanted(listed, wanted, row):
    """True if the row decides each wanted case by the wanted action."""
    return all([action_for(listed, row, case) == action for case, action in wanted_pairs(listed, wanted)])


def is_loose(listed, wanted, case):
    """True if the case is a wanted one that no rule matches, and the rest decides it wrongly."""
    action = wanted_of(listed, wanted, case)
    return action is not None and action != listed[2] and matching_set(listed[1], case) == ()
