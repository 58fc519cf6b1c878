"""Right rows made cheaper by swaps of neighbours."""

from rulerows.checks import regions_of_priced
from rulerows.swapping import safe_positions, swapped
from rulerows.weighing import row_cost


def best_swap(listed, wanted, weights, row):
    """The place of the best swap and the cost behind it, or None."""
    return cheaper_swap(listed, regions_of_priced(listed, wanted, weights, row), weights, row)


def improved(listed, wanted, weights, row):
    """The row behind its best swaps, one after another, until there is none."""
    regions = regions_of_priced(listed, wanted, weights, row)
    reached = row
    swap = cheaper_swap(listed, regions, weights, reached)
    while swap is not None:
        reached = swapped(reached, swap[0])
        swap = cheaper_swap(listed, regions, weights, reached)
    return reached


def cheaper_swap(listed, regions, weights, row):
    """The place of the best swap of a right row and the cost behind it, or None."""
    places = safe_positions(listed, regions, row)
    if places == ():
        return None
    cost, place = min([(row_cost(listed, weights, swapped(row, place)), place) for place in places])
    if cost >= row_cost(listed, weights, row):
        return None
    return (place, cost)
