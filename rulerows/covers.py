"""Which sets of rules cover a rule, and the evidence for either answer."""

from rulerows.deciding import first_fitting, have_common, matching_set
from rulerows.forms import is_case, is_integer, is_listed, is_number, is_set, is_tuple, need


def covers(listed, chosen, number):
    """True if the set covers the rule, otherwise False."""
    return first_shown(listed, chosen, number) is None


def first_shown(listed, chosen, number):
    """The first case that shows that the set does not cover the rule, or None."""
    need(is_listed(listed), "listed")
    need(is_set(listed, chosen), "chosen")
    need(is_number(listed, number), "number")
    return first_fitting(listed, (number,), chosen)


def shows_uncovered(listed, chosen, number, value):
    """True if the value is a case that shows that the set does not cover the rule."""
    need(is_listed(listed), "listed")
    need(is_set(listed, chosen), "chosen")
    need(is_number(listed, number), "number")
    if not is_case(listed[0], value):
        return False
    matching = matching_set(listed[1], value)
    return number in matching and not have_common(chosen, matching)


def cover_tree(listed, chosen, number):
    """A cover tree for the box of the rule, or None if the set does not cover it."""
    if first_shown(listed, chosen, number) is not None:
        return None
    return tree_for(listed, chosen, listed[1][number][1])


def accepts_tree(listed, chosen, number, value):
    """True if the value is a cover tree for the box of the rule, otherwise False."""
    need(is_listed(listed), "listed")
    need(is_set(listed, chosen), "chosen")
    need(is_number(listed, number), "number")
    return is_tree(listed, chosen, listed[1][number][1], value)


def contains(outer, inner):
    """True if the outer box contains the whole inner box."""
    return all([one[0] <= other[0] and other[1] <= one[1] for one, other in zip(outer, inner)])


def have_common_case(one, other):
    """True if some case lies in both boxes."""
    return all([mine[0] <= its[1] and its[0] <= mine[1] for mine, its in zip(one, other)])


def cut_apart(box, field, value):
    """The lower and the upper box of the cut."""
    low, high = box[field]
    lower = box[:field] + ((low, value - 1),) + box[field + 1:]
    upper = box[:field] + ((value, high),) + box[field + 1:]
    return lower, upper


def cut_at_end(box, other):
    """A field and a value at which a range of the other box begins or ends inside of the box.

    There is one if the boxes have a common case, and the other one does not contain the box.
    """
    for field, (low, high) in enumerate(other):
        if box[field][0] < low:
            return field, low
        if high < box[field][1]:
            return field, high + 1
    return None


def tree_for(listed, chosen, box):
    """A cover tree for a box of which each case is matched by a rule of the set."""
    for number in chosen:
        if contains(listed[1][number][1], box):
            return ("by", number)
    # A rule that matches a part of the box cuts it; each cut makes the boxes smaller, so this ends.
    meeting = [number for number in chosen if have_common_case(listed[1][number][1], box)]
    field, value = cut_at_end(box, listed[1][meeting[0]][1])
    lower, upper = cut_apart(box, field, value)
    return ("cut", field, value, tree_for(listed, chosen, lower), tree_for(listed, chosen, upper))


def is_cut(box, field, value):
    if not is_integer(field, 0, len(box) - 1):
        return False
    low, high = box[field]
    return is_integer(value, low + 1, high)


def is_tree(listed, chosen, box, value):
    """True if the value is a cover tree for the box by the rules of the set.

    The cut is judged before its trees, so a deep value is followed only as far as the box can be cut.
    """
    if is_tuple(value, 2, 2):
        word, number = value
        if word != "by" or not is_number(listed, number) or number not in chosen:
            return False
        return contains(listed[1][number][1], box)
    if not is_tuple(value, 5, 5):
        return False
    word, field, at, lower, upper = value
    if word != "cut" or not is_cut(box, field, at):
        return False
    lower_box, upper_box = cut_apart(box, field, at)
    return is_tree(listed, chosen, lower_box, lower) and is_tree(listed, chosen, upper_box, upper)
