"""What stands before what in all right rows."""

from rulerows.checks import need_goal, need_goal_and_number, need_goal_and_two, regions_with_rows
from rulerows.deciding import ascending_row
from rulerows.placing import place_others, ready_rules
from rulerows.ways import ready_after_sets


def always_before(listed, wanted):
    """All pairs of rules of which the first one stands always before the second one, ascending."""
    need_goal(listed, wanted)
    regions = regions_with_rows(listed, wanted)
    found = []
    for first in ascending_row(listed):
        placed = place_others(listed, regions, first)
        left = [number for number in ascending_row(listed) if number != first and number not in placed]
        found.extend([(first, second) for second in left])
    return found


def relation(listed, wanted, first, second):
    """The relation of the two rules: "before", "after" or "both"."""
    need_goal_and_two(listed, wanted, first, second)
    regions = regions_with_rows(listed, wanted)
    if stands_before(listed, regions, first, second):
        return "before"
    if stands_before(listed, regions, second, first):
        return "after"
    return "both"


def places(listed, wanted, number):
    """The earliest and the latest place of the rule."""
    need_goal_and_number(listed, wanted, number)
    ahead = sets_ahead(ready_after_sets(listed, regions_with_rows(listed, wanted)), number)
    return (len(ahead[0]), len(ahead[-1]))


def needed_sets(listed, wanted, number):
    """The needed sets of the rule: those with fewer rules first, and otherwise ascending."""
    need_goal_and_number(listed, wanted, number)
    return smallest_sets(sets_ahead(ready_after_sets(listed, regions_with_rows(listed, wanted)), number))


def choice(listed, wanted):
    """The first rule that has several needed sets, or None."""
    need_goal(listed, wanted)
    table = ready_after_sets(listed, regions_with_rows(listed, wanted))
    for number in ascending_row(listed):
        if len(smallest_sets(sets_ahead(table, number))) > 1:
            return number
    return None


def ends(listed, wanted):
    """The rules that can stand first, and those that can stand last."""
    need_goal(listed, wanted)
    regions = regions_with_rows(listed, wanted)
    others = len(listed[1]) - 1
    last = [number for number in ascending_row(listed) if len(place_others(listed, regions, number)) == others]
    return (ready_rules(listed, regions, ()), tuple(last))


def between(listed, wanted, first, second):
    """The rules that stand between the two in every right row, ascending."""
    need_goal_and_two(listed, wanted, first, second)
    regions = regions_with_rows(listed, wanted)
    found = []
    for number in ascending_row(listed):
        told_way = stand_in_turn(listed, regions, (first, number, second))
        if told_way or stand_in_turn(listed, regions, (second, number, first)):
            found.append(number)
    return tuple(found)


def stands_before(listed, regions, first, second):
    """True if the first rule stands before the second one, another one, in every right row."""
    return first != second and second not in place_others(listed, regions, first)


def stand_in_turn(listed, regions, rules):
    """True if each of the three rules stands always before the next one."""
    first, middle, last = rules
    return stands_before(listed, regions, first, middle) and stands_before(listed, regions, middle, last)


def sets_ahead(table, number):
    """The sets after which the rule is ready, of a table of all sets that can come first.

    Sets with fewer rules come first, as in the table. The greatest one is what is placed
    without the rule.
    """
    return [chosen for chosen, able in table.items() if number in able]


def smallest_sets(sets):
    """Those of the sets that contain no other one; none stands ahead of a smaller one."""
    found = []
    for chosen in sets:
        if not any([all([number in chosen for number in part]) for part in found]):
            found.append(chosen)
    return found
