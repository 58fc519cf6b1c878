"""How rules match and decide, for arguments that are checked already."""


def all_cases(widths):
    """All cases of these widths, ascending."""
    cases = [()]
    for width in widths:
        cases = [(*case, value) for case in cases for value in range(width)]
    return cases


def rule_matches(rule, case):
    return all([low <= value <= high for value, (low, high) in zip(case, rule[1])])


def matching_set(rules, case):
    """The set of all rules that match the case."""
    return tuple([number for number, rule in enumerate(rules) if rule_matches(rule, case)])


def ascending_row(listed):
    return tuple(range(len(listed[1])))


def first_match(listed, row, case):
    """The number of the first rule in the row that matches the case, or None."""
    for number in row:
        if rule_matches(listed[1][number], case):
            return number
    return None


def action_for(listed, row, case):
    """The decision of the case in the row."""
    number = first_match(listed, row, case)
    if number is None:
        return listed[2]
    return listed[1][number][0]


def have_common(numbers, others):
    """True if some number stands in both tuples."""
    return any([number in others for number in numbers])


def fitting_cases(listed, chosen, avoided):
    """The cases that all chosen rules match, and no avoided one, ascending."""
    found = []
    for case in all_cases(listed[0]):
        matching = matching_set(listed[1], case)
        if all([number in matching for number in chosen]) and not have_common(avoided, matching):
            found.append(case)
    return found


def first_fitting(listed, chosen, avoided):
    """The first of the fitting cases, or None if there is none."""
    fitting = fitting_cases(listed, chosen, avoided)
    if not fitting:
        return None
    return fitting[0]
