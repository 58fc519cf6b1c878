"""What several functions ask of their arguments before they do anything else."""

from rulerows.errors import NotPossible
from rulerows.forms import is_goal, is_listed, is_number, is_other_number, is_row, is_weights, need
from rulerows.goals import goal_regions, wrong_case
from rulerows.placing import complete_row


def need_goal(listed, wanted):
    """Raise BadValue unless it is a list, with something wanted of it."""
    need(is_listed(listed), "listed")
    need(is_goal(listed, wanted), "wanted")


def need_goal_and_row(listed, wanted, row):
    """Raise BadValue unless it is a list, with something wanted of it, and a row of it."""
    need_goal(listed, wanted)
    need(is_row(listed, row), "row")


def need_goal_and_number(listed, wanted, number):
    """Raise BadValue unless it is a list, with something wanted of it, and the number of a rule."""
    need_goal(listed, wanted)
    need(is_number(listed, number), "number")


def need_goal_and_two(listed, wanted, first, second):
    """Raise BadValue unless it is a list, with something wanted of it, and the numbers of two rules."""
    need_goal(listed, wanted)
    need(is_number(listed, first), "first")
    need(is_other_number(listed, first, second), "second")


def need_goal_and_weights(listed, wanted, weights):
    """Raise BadValue unless it is a list, with something wanted of it, and weights for it."""
    need_goal(listed, wanted)
    need(is_weights(listed, weights), "weights")


def regions_of_priced(listed, wanted, weights, row):
    """The regions of what is wanted; raise BadValue unless there are weights, and the row is right."""
    need_goal_and_weights(listed, wanted, weights)
    need(is_row(listed, row), "row")
    regions = goal_regions(listed, wanted)
    need(wrong_case(listed, regions, row) is None, "row")
    return regions


def regions_of_right(listed, wanted, rows):
    """The regions of what is wanted; raise NotPossible unless all these rows are right."""
    regions = goal_regions(listed, wanted)
    for row in rows:
        if wrong_case(listed, regions, row) is not None:
            raise NotPossible("wrong")
    return regions


def regions_with_rows(listed, wanted):
    """The regions of what is wanted; raise NotPossible unless there is a right row."""
    regions = goal_regions(listed, wanted)
    if complete_row(listed, regions, ()) is None:
        raise NotPossible("none")
    return regions
