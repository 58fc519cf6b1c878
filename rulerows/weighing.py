"""What comparing rules with weighted cases costs, for checked arguments."""

from rulerows.deciding import first_match


def compared_rules(listed, row, case):
    """The number of the rules of the row that are compared with the case."""
    number = first_match(listed, row, case)
    if number is None:
        return len(row)
    return row.index(number) + 1


def row_cost(listed, weights, row):
    """The cost of the row."""
    return sum([weight * compared_rules(listed, row, case) for case, weight in weights])


def open_weight(listed, weights, chosen):
    """The open weight after the chosen rules, in whatever sequence."""
    return sum([weight for case, weight in weights if first_match(listed, chosen, case) is None])
