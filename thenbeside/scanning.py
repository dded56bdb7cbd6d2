"""Tokens of texts: what stands between the blanks."""

from thenbeside.basics import require
from thenbeside.errors import TextError

MOST_CHARACTERS = 600
MOST_DIGITS = 6
MOST_NESTED = 6

LETTERS = "abcdefghijklmnopqrstuvwxyz"
DIGITS = "0123456789"
TASKS = ("a", "b", "c", "d", "e", "f", "g")
WORDS = ("then", "beside", "before", "after")
SIGNS = ("(", ")", "|", ",", ":")


def scan(text):
    """Return the list of the tokens of the text, tuples (kind, characters, column), the last one for the end."""
    check_text(text)
    found = []
    depth = 0
    at = 0
    while at < len(text):
        end = end_of_token(text, at)
        if text[at] != " ":
            token = (kind_of(text[at:end]), text[at:end], at + 1)
            check_token(token, depth)
            depth = depth_behind(token, depth)
            found.append(token)
        at = end
    found.append(("end", "", len(text) + 1))
    return found


def check_text(text):
    """Raise BadValue unless the text is a string of so many characters without newlines."""
    require(isinstance(text, str) and len(text) <= MOST_CHARACTERS and "\n" not in text, "text")


# The functions below are given texts that have been checked.


def end_of_token(text, start):
    """Return the index behind the characters that belong together, the first of which has the index start."""
    end = start + 1
    for group in (LETTERS, DIGITS):
        if text[start] in group:
            while end < len(text) and text[end] in group:
                end += 1
    return end


def kind_of(characters):
    """Return the kind of the token with these characters, or an empty string if there is no such token."""
    if characters in TASKS:
        return "task"
    if characters in WORDS:
        return "word"
    if characters in SIGNS:
        return "sign"
    return "number" if characters[0] in DIGITS and len(characters) <= MOST_DIGITS else ""


def check_token(token, depth):
    """Raise TextError if the token, which stands within so many signs that are not closed, has a problem."""
    kind, characters, column = token
    if kind == "":
        raise TextError(column, what_is_wrong(characters))
    if characters == "(" and depth == MOST_NESTED:
        raise TextError(column, "nested too deep")


def what_is_wrong(characters):
    """Return the words for characters that are no token."""
    if characters[0] in LETTERS:
        return "there is no such word"
    if characters[0] in DIGITS:
        return "a number has at most 6 digits"
    return "no token begins here"


def depth_behind(token, depth):
    """Return how many signs are not closed behind the token, if so many were not closed ahead of it."""
    if token[1] == "(":
        return depth + 1
    # What closes nothing changes nothing.
    return max(0, depth - 1) if token[1] == ")" else depth
