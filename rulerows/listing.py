"""The right rows by their indexes, found without listing those ahead of them."""

from rulerows.checks import need_goal
from rulerows.forms import is_integer, is_row, need
from rulerows.goals import goal_regions, wrong_case
from rulerows.ways import count_ways, joined, ready_after_sets


def nth_row(listed, wanted, index):
    """The right row with the index."""
    need_goal(listed, wanted)
    table, ways = counted_ways(listed, goal_regions(listed, wanted))
    need(is_integer(index, 0, ways[()] - 1), "index")
    return row_at(table, ways, index)


def index_of_row(listed, wanted, value):
    """The index of the value, or None if it is not a right row."""
    need_goal(listed, wanted)
    regions = goal_regions(listed, wanted)
    if not is_row(listed, value) or wrong_case(listed, regions, value) is not None:
        return None
    table, ways = counted_ways(listed, regions)
    index = 0
    chosen = ()
    for number in value:
        lesser = [other for other in table[chosen] if other < number]
        index += sum([ways[joined(chosen, other)] for other in lesser])
        chosen = joined(chosen, number)
    return index


def rows_from(listed, wanted, index, many):
    """So many right rows from the one with the index on, or fewer if there are not so many."""
    need_goal(listed, wanted)
    need(is_integer(index, 0, 10000), "index")
    need(is_integer(many, 0, 20), "many")
    table, ways = counted_ways(listed, goal_regions(listed, wanted))
    return [row_at(table, ways, at) for at in range(index, min(index + many, ways[()]))]


def counted_ways(listed, regions):
    """The sets that can come first with the rules ready after them, and the numbers of ways to go on."""
    table = ready_after_sets(listed, regions)
    return table, count_ways(listed, regions, table)


def row_at(table, ways, index):
    """The right row with the index, which is less than the number of all."""
    row = ()
    chosen = ()
    left = index
    while table[chosen]:
        able = list(table[chosen])
        # The rows that go on with a lesser rule stand ahead of the others.
        while left >= ways[joined(chosen, able[0])]:
            left -= ways[joined(chosen, able[0])]
            able = able[1:]
        row = (*row, able[0])
        chosen = joined(chosen, able[0])
    return row
