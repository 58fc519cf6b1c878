"""The sets that can come first, and the ways that lead over them to all rules, for checked arguments.

A way places ready rules one by one. What stands behind a set depends on the set
alone, not on the sequence in which its rules were placed.
"""

from rulerows.deciding import ascending_row
from rulerows.goals import unmet_case
from rulerows.placing import ready_rules


def joined(chosen, number):
    """The set with this rule more."""
    return tuple(sorted((*chosen, number)))


def ready_after_sets(listed, regions):
    """Each set that can come first, with the rules that are ready after it.

    Sets with fewer rules come first, and those with equally many in ascending order.
    """
    table = {}
    level = [()]
    while level:
        following = {}
        for chosen in level:
            able = ready_rules(listed, regions, chosen)
            table[chosen] = able
            for number in able:
                following[joined(chosen, number)] = True
        level = sorted(following)
    return table


def with_rule_at(table, number, place):
    """The table without the steps of ways on which the rule does not come to this place."""
    steps = {}
    for chosen, able in table.items():
        steps[chosen] = [other for other in able if (other == number) == (len(chosen) == place)]
    return steps


def with_rule_before(table, number, other):
    """The table without the steps of ways on which the other rule comes ahead of the rule."""
    steps = {}
    for chosen, able in table.items():
        steps[chosen] = [placed for placed in able if placed != other or number in chosen]
    return steps


def count_ways(listed, regions, table):
    """The number of ways to go on from each set of the table to all rules, so that a right row comes."""
    whole = ascending_row(listed)
    # With a loose case, no row is right, whatever the ways.
    ways = {whole: 1 if unmet_case(listed, regions) is None else 0}
    for chosen, able in reversed(list(table.items())):
        if chosen != whole:
            ways[chosen] = sum([ways[joined(chosen, number)] for number in able])
    return ways


def cheapest_way(listed, priced):
    """The least cost of a way to all rules, and the first row that has it; or None if there is no way.

    The table has the rules that can be placed after each set, each with what it costs there.
    """
    ways = {ascending_row(listed): (0, ())}
    for chosen, able in reversed(list(priced.items())):
        found = []
        for number, price in able:
            following = joined(chosen, number)
            if following in ways:
                cost, behind = ways[following]
                found.append((price + cost, (number, *behind)))
        if found:
            ways[chosen] = min(found)
    return ways.get(())
