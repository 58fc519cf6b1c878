"""Rules that can stand next, sets that can come first, and the first right rows."""

from rulerows.forms import is_goal, is_listed, is_number, is_numbers, is_set, need
from rulerows.goals import goal_regions
from rulerows.placing import come_in_turn, complete_row, place_others, place_rules, ready_rules


def ready(listed, wanted, chosen):
    """The rules that are ready after the chosen set, ascending."""
    need(is_listed(listed), "listed")
    need(is_goal(listed, wanted), "wanted")
    need(is_set(listed, chosen), "chosen")
    return ready_rules(listed, goal_regions(listed, wanted), chosen)


def can_come_first(listed, wanted, chosen):
    """True if the chosen set can come first, otherwise False."""
    need(is_listed(listed), "listed")
    need(is_goal(listed, wanted), "wanted")
    need(is_set(listed, chosen), "chosen")
    return len(place_rules(listed, goal_regions(listed, wanted), (), chosen)) == len(chosen)


def first_row(listed, wanted):
    """The first right row, or None."""
    need(is_listed(listed), "listed")
    need(is_goal(listed, wanted), "wanted")
    return complete_row(listed, goal_regions(listed, wanted), ())


def row_beginning(listed, wanted, rules):
    """The first right row that begins with the rules in the told sequence, or None."""
    need(is_listed(listed), "listed")
    need(is_goal(listed, wanted), "wanted")
    need(is_numbers(listed, rules), "rules")
    regions = goal_regions(listed, wanted)
    if not come_in_turn(listed, regions, rules):
        return None
    return complete_row(listed, regions, rules)


def placed_without(listed, wanted, number):
    """The set that comes when rules other than this one are placed as long as any is ready."""
    need(is_listed(listed), "listed")
    need(is_goal(listed, wanted), "wanted")
    need(is_number(listed, number), "number")
    return tuple(sorted(place_others(listed, goal_regions(listed, wanted), number)))
