"""Safe paths between right rows, rows that are the only right one, and the judges of both."""

from rulerows.checks import need_goal_and_row, regions_of_right
from rulerows.deciding import have_common, matching_set
from rulerows.forms import is_case, is_positions, is_row, is_tuple, need
from rulerows.goals import wanted_of
from rulerows.swapping import rules_apart, safe_positions, shown_case, swapped, walked


def path(listed, wanted, row, other):
    """The first safe path between the rows with as many swaps as their distance."""
    need_goal_and_row(listed, wanted, row)
    need(is_row(listed, other), "other")
    regions = regions_of_right(listed, wanted, (row, other))
    positions = []
    reached = row
    while reached != other:
        position = nearer_swap(listed, regions, reached, other)
        positions.append(position)
        reached = swapped(reached, position)
    return tuple(positions)


def accepts_path(listed, wanted, row, other, value):
    """True if the value is evidence for the distance of the two rows, otherwise False."""
    need_goal_and_row(listed, wanted, row)
    need(is_row(listed, other), "other")
    regions = regions_of_right(listed, wanted, (row, other))
    many = rules_apart(row, other)
    return is_positions(listed, value, many, many) and walked(listed, regions, row, value) == other


def is_only(listed, wanted, row):
    """True if the row is the only right one, otherwise False."""
    need_goal_and_row(listed, wanted, row)
    return safe_positions(listed, regions_of_right(listed, wanted, (row,)), row) == ()


def only_evidence(listed, wanted, row):
    """The evidence with the first case for each position, or None if the row is not the only one."""
    need_goal_and_row(listed, wanted, row)
    regions = regions_of_right(listed, wanted, (row,))
    cases = [shown_case(listed, regions, row, position) for position in range(len(row) - 1)]
    if None in cases:
        return None
    return tuple(cases)


def accepts_only(listed, wanted, row, value):
    """True if the value is evidence that the row is the only right one, otherwise False."""
    need_goal_and_row(listed, wanted, row)
    regions_of_right(listed, wanted, (row,))
    many = max(0, len(row) - 1)
    if not is_tuple(value, many, many):
        return False
    return all([forbids_swap(listed, wanted, row, position, case) for position, case in enumerate(value)])


def nearer_swap(listed, regions, row, other):
    """The first safe swap of two rules that stand the other way round in the other row.

    There is one, as the rows differ and both are right.
    """
    for position in range(len(row) - 1):
        turned = other.index(row[position]) > other.index(row[position + 1])
        if turned and shown_case(listed, regions, row, position) is None:
            return position
    return None


def forbids_swap(listed, wanted, row, position, case):
    """True if it is a wanted case that the second rule of the swap would decide wrongly."""
    if not is_case(listed[0], case):
        return False
    first, second = row[position], row[position + 1]
    action = wanted_of(listed, wanted, case)
    if action is None or action == listed[1][second][0]:
        return False
    matching = matching_set(listed[1], case)
    return first in matching and second in matching and not have_common(row[:position], matching)
