"""Short rows and sets of rules by the number of their rules, for checked arguments."""

from rulerows.deciding import have_common
from rulerows.goals import goal_regions, wrong_case
from rulerows.placing import place_rules


def sets_by_size(numbers):
    """All sets of these rules: those with fewer rules first, and otherwise ascending."""
    sets = [()]
    for number in numbers:
        sets = [*sets, *[(*chosen, number) for chosen in sets]]
    return [chosen for _, chosen in sorted([(len(chosen), chosen) for chosen in sets])]


def own_regions(listed):
    """The regions of what the list decides itself."""
    return goal_regions(listed, ("self",))


def others_than(listed, number):
    """The short row of all other rules, ascending."""
    return tuple([other for other in range(len(listed[1])) if other != number])


def alike_row(listed, regions, chosen):
    """The first short row of all rules of the set that decides alike, or None.

    In a short row that decides alike each rule is ready in its turn.
    """
    row = place_rules(listed, regions, (), chosen)
    if len(row) < len(chosen) or wrong_case(listed, regions, row) is not None:
        return None
    return row


def shortest_alike(listed, regions, sets):
    """The shortest row that has the rules of one of these sets, which come by their size."""
    found = []
    for chosen in sets:
        if found and len(chosen) > len(found[0]):
            break
        row = alike_row(listed, regions, chosen)
        if row is not None:
            found.append(row)
    return min(found)


def first_hiding(listed, number, sets):
    """The first of the sets that hides the rule, or None."""
    matching_sets = [matching for _, matching, _ in own_regions(listed) if number in matching]
    for chosen in sets:
        if all([have_common(chosen, matching) for matching in matching_sets]):
            return chosen
    return None
