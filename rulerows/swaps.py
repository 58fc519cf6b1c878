"""Swaps of right rows that keep them right, and the nearest rows."""

from rulerows.checks import need_goal_and_row, regions_of_right
from rulerows.forms import is_listed, is_number, is_place, is_position, is_positions, is_row, need
from rulerows.swapping import rules_apart, safe_positions, shown_case, walked
from rulerows.ways import cheapest_way, ready_after_sets, with_rule_at


def distance(listed, row, other):
    """The distance of the two rows, which need not be right."""
    need(is_listed(listed), "listed")
    need(is_row(listed, row), "row")
    need(is_row(listed, other), "other")
    return rules_apart(row, other)


def safe_swaps(listed, wanted, row):
    """The positions of all safe swaps, ascending."""
    need_goal_and_row(listed, wanted, row)
    return safe_positions(listed, regions_of_right(listed, wanted, (row,)), row)


def shown_by(listed, wanted, row, position):
    """The first wanted case that the row behind the swap decides wrongly, or None if the swap is safe."""
    need_goal_and_row(listed, wanted, row)
    need(is_position(listed, position), "position")
    return shown_case(listed, regions_of_right(listed, wanted, (row,)), row, position)


def applied(listed, wanted, row, positions):
    """The row behind these swaps if this is a safe path, otherwise None."""
    need_goal_and_row(listed, wanted, row)
    need(is_positions(listed, positions, 0, 60), "positions")
    return walked(listed, regions_of_right(listed, wanted, (row,)), row, positions)


def nearest(listed, wanted, row, number, place):
    """The nearest row with this rule at this place, or None."""
    need_goal_and_row(listed, wanted, row)
    need(is_number(listed, number), "number")
    need(is_place(listed, place), "place")
    table = ready_after_sets(listed, regions_of_right(listed, wanted, (row,)))
    priced = {}
    for chosen, able in with_rule_at(table, number, place).items():
        priced[chosen] = [(other, passed_by(row, chosen, other)) for other in able]
    way = cheapest_way(listed, priced)
    if way is None:
        return None
    return way[1]


def passed_by(row, chosen, number):
    """How many of the chosen rules stand behind this one in the row.

    Summed up over all rules, each after those that are placed before it, this is the distance.
    """
    return len([other for other in chosen if row.index(other) > row.index(number)])
