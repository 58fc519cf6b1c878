"""Rules that are placed one by one, each of them ready, for checked arguments.

Of what is wanted only the regions matter here: a row decides all cases of a
region alike.
"""

from rulerows.deciding import ascending_row, have_common
from rulerows.goals import unmet_case


def ready_rules(listed, regions, chosen):
    """The rules that are ready after the chosen ones, ascending."""
    still_open = [region for region in regions if not have_common(region[1], chosen)]
    found = []
    for number in ascending_row(listed):
        action = listed[1][number][0]
        others = [region for region in still_open if number in region[1] and region[2] != action]
        if number not in chosen and not others:
            found.append(number)
    return tuple(found)


def place_rules(listed, regions, begun, allowed):
    """The begun row, and behind it the least allowed rule that is ready, again and again."""
    row = begun
    able = [number for number in ready_rules(listed, regions, row) if number in allowed]
    while able:
        row = (*row, able[0])
        able = [number for number in ready_rules(listed, regions, row) if number in allowed]
    return row


def place_others(listed, regions, number):
    """What is placed without the rule, in the sequence in which it is placed."""
    allowed = [other for other in ascending_row(listed) if other != number]
    return place_rules(listed, regions, (), allowed)


def come_in_turn(listed, regions, rules):
    """True if each of the rules is ready after those before it."""
    return all([rules[place] in ready_rules(listed, regions, rules[:place]) for place in range(len(rules))])


def complete_row(listed, regions, begun):
    """The first right row that begins with these rules, which are ready in their turn, or None."""
    if unmet_case(listed, regions) is not None:
        return None
    row = place_rules(listed, regions, begun, ascending_row(listed))
    if len(row) < len(listed[1]):
        return None
    return row
