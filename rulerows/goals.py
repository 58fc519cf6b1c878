"""What is wanted of a list, case by case and by regions, for checked arguments."""

from rulerows.deciding import action_for, all_cases, ascending_row, matching_set


def decided_pairs(listed):
    """All cases with the actions by which the ascending row decides them."""
    row = ascending_row(listed)
    return [(case, action_for(listed, row, case)) for case in all_cases(listed[0])]


def wanted_pairs(listed, wanted):
    """The wanted cases with the wanted actions, ascending."""
    if wanted[0] == "self":
        return decided_pairs(listed)
    if wanted[0] == "list":
        return decided_pairs(wanted[1])
    return list(wanted[1])


def wanted_of(listed, wanted, case):
    """The action that is wanted of the case, or None if it is not a wanted case."""
    if wanted[0] == "self":
        return action_for(listed, ascending_row(listed), case)
    if wanted[0] == "list":
        return action_for(wanted[1], ascending_row(wanted[1]), case)
    for other, action in wanted[1]:
        if other == case:
            return action
    return None


def goal_regions(listed, wanted):
    """The regions of what is wanted, in the order of their first cases."""
    first_cases = {}
    for case, action in wanted_pairs(listed, wanted):
        matching = matching_set(listed[1], case)
        first_cases.setdefault((matching, action), case)
    return [(case, matching, action) for (matching, action), case in first_cases.items()]


def unmet_case(listed, regions):
    """The first case that no rule matches, and that is not to be decided by the rest, or None."""
    for case, matching, action in regions:
        if matching == () and action != listed[2]:
            return case
    return None


def wrong_case(listed, regions, row):
    """The first case that is wrong for the row, or None if the row is right."""
    for case, _, action in regions:
        if action_for(listed, row, case) != action:
            return case
    return None
