"""Tables of costs, which show that no right row costs less, and their judges."""

from rulerows.checks import need_goal_and_weights, regions_of_priced
from rulerows.deciding import ascending_row
from rulerows.forms import is_integer, is_set, is_tuple, is_whole, need
from rulerows.goals import goal_regions
from rulerows.placing import ready_rules
from rulerows.ways import joined, ready_after_sets
from rulerows.weighing import open_weight, row_cost


def told_table(listed, wanted, weights):
    """The told table of costs."""
    need_goal_and_weights(listed, wanted, weights)
    least = {(): 0}
    # The sets come with fewer rules first, so the number of a set is the least one when its turn comes.
    for chosen, able in ready_after_sets(listed, goal_regions(listed, wanted)).items():
        price = least[chosen] + open_weight(listed, weights, chosen)
        for number in able:
            following = joined(chosen, number)
            least[following] = min(price, least.get(following, price))
    return tuple(sorted(least.items()))


def accepts_bound(listed, wanted, weights, bound, value):
    """True if the value is a table of costs that is right for the bound, otherwise False."""
    need_goal_and_weights(listed, wanted, weights)
    need(is_integer(bound, 0, 100000), "bound")
    return is_right_table(listed, goal_regions(listed, wanted), weights, bound, value)


def accepts_cheapest(listed, wanted, weights, row, value):
    """True if the value is evidence that the row is one of the cheapest, otherwise False."""
    regions = regions_of_priced(listed, wanted, weights, row)
    return is_right_table(listed, regions, weights, row_cost(listed, weights, row), value)


def is_entry(listed, value):
    """True if the value is a pair of a set of rules and an integer."""
    if not is_tuple(value, 2, 2):
        return False
    chosen, number = value
    return is_set(listed, chosen) and is_whole(number)


def is_table(listed, value):
    """True if the value is a table of costs, right or not."""
    # Seven rules have 128 sets.
    if not is_tuple(value, 0, 128) or not all([is_entry(listed, item) for item in value]):
        return False
    sets = [chosen for chosen, _ in value]
    return sets == sorted(set(sets))


def is_right_table(listed, regions, weights, bound, value):
    """True if the value is a table of costs that is right for the bound."""
    if not is_table(listed, value):
        return False
    table = {chosen: number for chosen, number in value}
    whole = ascending_row(listed)
    if () not in table or table[()] > 0:
        return False
    if whole in table and table[whole] < bound:
        return False
    return all([goes_on(listed, regions, weights, table, chosen) for chosen in list(table)])


def goes_on(listed, regions, weights, table, chosen):
    """True if the table has the set with each rule that is ready after it, with no greater number than may be."""
    most = table[chosen] + open_weight(listed, weights, chosen)
    following = [joined(chosen, number) for number in ready_rules(listed, regions, chosen)]
    return all([larger in table and table[larger] <= most for larger in following])
