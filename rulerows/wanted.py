"""What is wanted of a list, which rows are right for it, and what means the same."""

from rulerows.deciding import action_for
from rulerows.forms import is_case, is_goal, is_listed, is_row, need
from rulerows.goals import goal_regions, unmet_case, wanted_of, wanted_pairs
from rulerows.placing import complete_row, ready_rules


def is_wanted(listed, value):
    """True if the value is something wanted of the list, otherwise False."""
    need(is_listed(listed), "listed")
    return is_goal(listed, value)


def wanted_action(listed, wanted, case):
    """The action that is wanted of the case, or None if it is not a wanted case."""
    need(is_listed(listed), "listed")
    need(is_goal(listed, wanted), "wanted")
    need(is_case(listed[0], case), "case")
    return wanted_of(listed, wanted, case)


def first_unmet(listed, wanted):
    """The first unmet case, or None."""
    need(is_listed(listed), "listed")
    need(is_goal(listed, wanted), "wanted")
    return unmet_case(listed, goal_regions(listed, wanted))


def first_wrong(listed, wanted, row):
    """The first case that is wrong for the row, or None."""
    need(is_listed(listed), "listed")
    need(is_goal(listed, wanted), "wanted")
    need(is_row(listed, row), "row")
    for case, action in wanted_pairs(listed, wanted):
        if action_for(listed, row, case) != action:
            return case
    return None


def is_right(listed, wanted, row):
    """True if the row is right, otherwise False."""
    return first_wrong(listed, wanted, row) is None


def regions(listed, wanted):
    """The regions of what is wanted, in the order of their first cases."""
    need(is_listed(listed), "listed")
    need(is_goal(listed, wanted), "wanted")
    return goal_regions(listed, wanted)


def mean_the_same(listed, one, other):
    """True if exactly the same rows are right for both, otherwise False."""
    return telling_row(listed, one, other) is None


def telling_row(listed, one, other):
    """The first row that is right for exactly one of the two, or None."""
    need(is_listed(listed), "listed")
    need(is_goal(listed, one), "one")
    need(is_goal(listed, other), "other")
    mine = goal_regions(listed, one)
    its = goal_regions(listed, other)
    my_first = complete_row(listed, mine, ())
    its_first = complete_row(listed, its, ())
    if my_first is None:
        return its_first
    if its_first is None:
        return my_first
    return telling_from(listed, mine, its, (), {})


def tells(listed, one, other, value):
    """True if the value is a row that is right for exactly one of the two, otherwise False."""
    need(is_listed(listed), "listed")
    need(is_goal(listed, one), "one")
    need(is_goal(listed, other), "other")
    return is_row(listed, value) and is_right(listed, one, value) != is_right(listed, other, value)


def telling_from(listed, mine, its, begun, in_vain):
    """The first telling row that begins with rules that are ready in their turn for both, or None.

    Both have a right row, so a rule that is ready for just one of them leads to a telling row.
    The sets of rules after which there is none are kept in `in_vain`: their sequence does not matter.
    """
    chosen = tuple(sorted(begun))
    if chosen in in_vain:
        return None
    my_ready = ready_rules(listed, mine, begun)
    its_ready = ready_rules(listed, its, begun)
    for number in sorted(set(my_ready) | set(its_ready)):
        row = (*begun, number)
        if number not in its_ready:
            return complete_row(listed, mine, row)
        if number not in my_ready:
            return complete_row(listed, its, row)
        found = telling_from(listed, mine, its, row, in_vain)
        if found is not None:
            return found
    in_vain[chosen] = True
    return None
