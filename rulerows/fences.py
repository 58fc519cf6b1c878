"""Evidence that a rule stands always before another one, or that it does not, and its judge."""

from rulerows.blocking import blocking_pairs, is_blocking
from rulerows.checks import need_goal_and_two, regions_with_rows
from rulerows.forms import is_row, is_tuple
from rulerows.goals import wrong_case
from rulerows.placing import complete_row, place_others


def before_evidence(listed, wanted, first, second):
    """Accepted evidence that the first rule stands always before the second one, or that it does not."""
    need_goal_and_two(listed, wanted, first, second)
    regions = regions_with_rows(listed, wanted)
    placed = place_others(listed, regions, first)
    if second in placed:
        return ("not", complete_row(listed, regions, placed))
    return ("always", blocking_pairs(listed, regions, placed, (first,)))


def accepts_before(listed, wanted, first, second, value):
    """True if the value is evidence of either word, otherwise False."""
    need_goal_and_two(listed, wanted, first, second)
    regions = regions_with_rows(listed, wanted)
    if not is_tuple(value, 2, 2):
        return False
    word, told = value
    if word == "always":
        return is_blocking(listed, wanted, (first,), told) and is_fence(told, first, second)
    if word != "not" or not is_row(listed, told) or wrong_case(listed, regions, told) is not None:
        return False
    return told.index(second) < told.index(first)


def is_fence(pairs, first, second):
    """True if the second rule is among those of the pairs, but not the first one."""
    numbers = [number for number, _ in pairs]
    return second in numbers and first not in numbers
