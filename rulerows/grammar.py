"""The grammars of the texts: what can come at each place of a text."""

from rulerows.errors import TextError
from rulerows.scanning import scan

# What can come at a place, in the order in which it is told, with the place that is behind it. A text
# begins at the place that has the name of its kind.
FOLLOWING = {
    "list": (("a number", "widths"),),
    "widths": (("a number", "widths"), ('":"', "rules")),
    "rules": (("a number", "action"), ("else", "rest")),
    "action": (("if", "fields"),),
    "fields": (("a number", "low"), ('"*"', "field")),
    "field": (("a number", "low"), ('";"', "rules"), ('"*"', "field")),
    "low": (("a number", "low"), ('";"', "rules"), ('"*"', "field"), ('".."', "range")),
    "range": (("a number", "field"),),
    "rest": (("a number", "whole"),),
    "whole": (("the end", "nothing"),),
    "row": (("a number", "row"), ("the end", "nothing")),
}


def words_at(place):
    """What can come at the place, in words."""
    return [word for word, _ in FOLLOWING[place]]


def place_behind(tokens, kind):
    """The place behind the tokens of a text of this kind.

    Raise TextError at the first token that cannot come at its place.
    """
    place = kind
    for token in tokens:
        able = dict(FOLLOWING[place])
        word = word_for(token)
        if word not in able:
            raise TextError(token[2], "expected " + one_of(words_at(place)))
        place = able[word]
    return place


def whole_text(text, kind):
    """The tokens of a text of this kind; raise TextError if it is none."""
    tokens = scan(text)
    place_behind(tokens, kind)
    return tokens


def word_for(token):
    """The word by which it is told that a token like this one can come."""
    kind, characters, _ = token
    if kind == "number":
        return "a number"
    if kind == "end":
        return "the end"
    if kind == "sign":
        return '"' + characters + '"'
    return characters


def one_of(words):
    """The words as a choice: one alone as it is, several with `or` ahead of the last one."""
    if len(words) == 1:
        return words[0]
    return ", ".join(words[:-1]) + " or " + words[-1]
