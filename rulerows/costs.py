"""What rows cost, and the cheapest right row."""

from rulerows.checks import need_goal_and_weights
from rulerows.deciding import first_match
from rulerows.forms import is_listed, is_row, is_weights, need
from rulerows.goals import goal_regions, unmet_case
from rulerows.weighing import open_weight, row_cost
from rulerows.ways import cheapest_way, ready_after_sets


def cost(listed, weights, row):
    """The cost of the row."""
    need(is_listed(listed), "listed")
    need(is_weights(listed, weights), "weights")
    need(is_row(listed, row), "row")
    return row_cost(listed, weights, row)


def shares(listed, weights, row):
    """The shares of the rules, by their numbers."""
    need(is_listed(listed), "listed")
    need(is_weights(listed, weights), "weights")
    need(is_row(listed, row), "row")
    found = [0] * len(row)
    for case, weight in weights:
        number = first_match(listed, row, case)
        if number is not None:
            found[number] += weight
    return tuple(found)


def cheapest_row(listed, wanted, weights):
    """The first one of the right rows with the least cost, or None if there is no right row."""
    way = best_way(listed, wanted, weights)
    if way is None:
        return None
    return way[1]


def least_cost(listed, wanted, weights):
    """The cost of the cheapest row, or None if there is no right row."""
    way = best_way(listed, wanted, weights)
    if way is None:
        return None
    return way[0]


def best_way(listed, wanted, weights):
    """The least cost of a right row, and the first row that has it, or None."""
    need_goal_and_weights(listed, wanted, weights)
    regions = goal_regions(listed, wanted)
    if unmet_case(listed, regions) is not None:
        return None
    priced = {}
    for chosen, able in ready_after_sets(listed, regions).items():
        # Whichever rule stands next, it is compared with each case that is still open.
        price = open_weight(listed, weights, chosen)
        priced[chosen] = [(number, price) for number in able]
    return cheapest_way(listed, priced)
