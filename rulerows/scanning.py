"""The tokens of the texts of lists, rows and cases."""

from rulerows.errors import TextError
from rulerows.forms import is_text, need

LETTERS = "abcdefghijklmnopqrstuvwxyz"
DIGITS = "0123456789"
WORDS = ("if", "else")
SIGNS = (":", ";", "*", "..")


def scan(text):
    """The tokens of a text, each with its kind, its characters and its column."""
    need(is_text(text), "text")
    tokens = []
    at = behind_all(text, 0, " ")
    while at < len(text):
        token = token_at(text, at)
        tokens.append(token)
        at = behind_all(text, at + len(token[1]), " ")
    tokens.append(("end", "", at + 1))
    return tokens


def behind_all(text, begin, characters):
    """The index, from this one on, of the first character that is none of these, or the end."""
    at = begin
    while at < len(text) and text[at] in characters:
        at += 1
    return at


def token_at(text, at):
    """The token that begins at the index; raise TextError if it has a problem."""
    word = text[at:behind_all(text, at, LETTERS)]
    if word != "":
        return word_token(word, at + 1)
    number = text[at:behind_all(text, at, DIGITS)]
    if number != "":
        return number_token(number, at + 1)
    for sign in SIGNS:
        if text[at:at + len(sign)] == sign:
            return ("sign", sign, at + 1)
    raise TextError(at + 1, "no token begins here")


def word_token(word, column):
    if word not in WORDS:
        raise TextError(column, "there is no such word")
    return ("word", word, column)


def number_token(number, column):
    if len(number) > 6:
        raise TextError(column, "a number has at most 6 digits")
    return ("number", number, column)
