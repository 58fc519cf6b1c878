"""Lists, rows and cases that are read from their texts."""

from rulerows.errors import TextError
from rulerows.forms import is_listed, is_text, need
from rulerows.grammar import place_behind, whole_text, words_at
from rulerows.scanning import scan


def next_tokens(text, kind):
    """What can come behind the tokens of the text, which begins a text of this kind."""
    need(is_text(text), "text")
    need(kind == "list" or kind == "row", "kind")
    return words_at(place_behind(scan(text)[:-1], kind))


def read_list(text):
    """The list that the text tells."""
    need(is_text(text), "text")
    phrases = phrases_of(whole_text(text, "list"))
    widths = read_widths(phrases[0][:-1])
    rules = []
    for phrase in phrases[1:-1]:
        if len(rules) == 7:
            raise TextError(phrase[0][2], "there are at most 7 rules")
        rules.append(read_rule(widths, phrase))
    return (widths, tuple(rules), read_action(phrases[-1][1]))


def read_row(listed, text):
    """The row of the list that the text tells."""
    need(is_listed(listed), "listed")
    need(is_text(text), "text")
    tokens = whole_text(text, "row")
    row = []
    for _, characters, column in tokens[:-1]:
        number = int(characters)
        if number >= len(listed[1]):
            raise TextError(column, "there is no such rule")
        if number in row:
            raise TextError(column, "this rule stands already")
        row.append(number)
    if len(row) < len(listed[1]):
        raise TextError(tokens[-1][2], "a rule is missing")
    return tuple(row)


def read_case(listed, text):
    """The case of the list that the text tells."""
    need(is_listed(listed), "listed")
    need(is_text(text), "text")
    widths = listed[0]
    tokens = whole_text(text, "row")
    case = []
    for token in tokens[:-1]:
        need_field(widths, len(case), token)
        case.append(read_value(widths[len(case)], token))
    if len(case) < len(widths):
        raise TextError(tokens[-1][2], "a field is missing")
    return tuple(case)


def phrases_of(tokens):
    """The tokens of the text of a list, cut behind the `:` and behind each `;`."""
    phrases = []
    begun = []
    for token in tokens:
        begun.append(token)
        if token[1] in (":", ";"):
            phrases.append(begun)
            begun = []
    return [*phrases, begun]


def read_widths(tokens):
    """The widths, each told by one of the tokens."""
    widths = []
    for _, characters, column in tokens:
        if len(widths) == 3:
            raise TextError(column, "there are at most 3 fields")
        width = int(characters)
        if width < 1 or width > 8:
            raise TextError(column, "a width is from 1 to 8")
        widths.append(width)
    return tuple(widths)


def read_rule(widths, phrase):
    """The rule that the tokens tell, from its action to the `;` behind it."""
    action = read_action(phrase[0])
    ranges = []
    for field in fields_of(phrase[2:-1]):
        need_field(widths, len(ranges), field[0])
        ranges.append(read_range(widths[len(ranges)], field))
    if len(ranges) < len(widths):
        raise TextError(phrase[-1][2], "a field is missing")
    return (action, tuple(ranges))


def fields_of(tokens):
    """The tokens behind the `if` of a rule, put together by fields."""
    fields = []
    in_range = False
    for token in tokens:
        if in_range or token[1] == "..":
            fields[-1].append(token)
        else:
            fields.append([token])
        in_range = token[1] == ".."
    return fields


def read_range(width, field):
    """The range that the tokens of a field tell."""
    if field[0][1] == "*":
        return (0, width - 1)
    low = read_value(width, field[0])
    high = read_value(width, field[-1])
    if high < low:
        raise TextError(field[-1][2], "a range ascends")
    return (low, high)


def need_field(widths, place, token):
    """Raise TextError at the token unless there is a field at this place."""
    if place >= len(widths):
        raise TextError(token[2], "there is no such field")


def read_value(width, token):
    """The value of a field of this width that the token tells."""
    value = int(token[1])
    if value >= width:
        raise TextError(token[2], "there is no such value")
    return value


def read_action(token):
    """The action that the token tells."""
    action = int(token[1])
    if action > 5:
        raise TextError(token[2], "an action is from 0 to 5")
    return action
