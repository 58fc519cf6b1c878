"""Swaps of neighbours in rows, for checked arguments."""

from rulerows.goals import wrong_case


def swapped(row, position):
    """The row with the rule at the position and the one behind it exchanged."""
    return (*row[:position], row[position + 1], row[position], *row[position + 2:])


def shown_case(listed, regions, row, position):
    """The first case that is wrong for the row behind the swap, or None if the swap is safe."""
    return wrong_case(listed, regions, swapped(row, position))


def walked(listed, regions, row, positions):
    """The row behind these swaps of a right row, or None if one of them is not safe."""
    reached = row
    for position in positions:
        if shown_case(listed, regions, reached, position) is not None:
            return None
        reached = swapped(reached, position)
    return reached


def safe_positions(listed, regions, row):
    """The positions of all safe swaps of a right row, ascending."""
    positions = range(len(row) - 1)
    return tuple([position for position in positions if shown_case(listed, regions, row, position) is None])


def rules_apart(row, other):
    """The number of pairs of rules that stand the other way round in the two rows."""
    pairs = [(row[place], number) for place in range(len(row)) for number in row[place + 1:]]
    return len([1 for ahead, behind in pairs if other.index(ahead) > other.index(behind)])
