"""How many right rows there are, counted by the sets that can come first."""

from rulerows.checks import need_goal, need_goal_and_number
from rulerows.forms import is_numbers, is_other_number, is_place, need
from rulerows.goals import goal_regions
from rulerows.placing import come_in_turn
from rulerows.ways import count_ways, ready_after_sets, with_rule_at, with_rule_before


def count_rows(listed, wanted):
    """The number of the right rows."""
    return count_beginning(listed, wanted, ())


def count_beginning(listed, wanted, rules):
    """The number of the right rows that begin with the rules in the told sequence."""
    need_goal(listed, wanted)
    need(is_numbers(listed, rules), "rules")
    regions = goal_regions(listed, wanted)
    if not come_in_turn(listed, regions, rules):
        return 0
    return count_ways(listed, regions, ready_after_sets(listed, regions))[tuple(sorted(rules))]


def count_at(listed, wanted, number, place):
    """The number of the right rows in which the rule stands at the place."""
    need_goal_and_number(listed, wanted, number)
    need(is_place(listed, place), "place")
    regions = goal_regions(listed, wanted)
    table = ready_after_sets(listed, regions)
    return count_ways(listed, regions, with_rule_at(table, number, place))[()]


def count_before(listed, wanted, number, other):
    """The number of the right rows in which the rule stands before the other one."""
    need_goal_and_number(listed, wanted, number)
    need(is_other_number(listed, number, other), "other")
    regions = goal_regions(listed, wanted)
    table = ready_after_sets(listed, regions)
    return count_ways(listed, regions, with_rule_before(table, number, other))[()]


def sets_first(listed, wanted):
    """All sets that can come first: those with fewer rules first, and otherwise ascending."""
    need_goal(listed, wanted)
    return list(ready_after_sets(listed, goal_regions(listed, wanted)))
