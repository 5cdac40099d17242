"""Texts as rows of tokens (part 1, points 1.1 to 1.4)."""

from sameclock.errors import BadCharacter, BadNumber
from sameclock.limits import GREATEST_WORD

KEYWORDS = ("public", "secret", "array", "fn", "main", "return", "if", "else", "for", "to", "max", "out", "div", "mod")
LETTERS = "abcdefghijklmnopqrstuvwxyzABCDEFGHIJKLMNOPQRSTUVWXYZ"
DIGITS = "0123456789"
WORD_SIGNS = "_0123456789abcdefghijklmnopqrstuvwxyzABCDEFGHIJKLMNOPQRSTUVWXYZ"
SHORT_SIGNS = ("{", "}", "(", ")", "[", "]", ",", ";", "=", "+", "-", "*", "&", "|", "^", "!", "?", ":", "<")
LONG_SIGNS = ("<=", "<<", ">>", "==")
MOST_DIGITS = 10


def tokens(text):
    """Returns the list of the tokens of a text, the end token last."""
    found = []
    at = 0
    row = 1
    row_begin = 0
    while at < len(text):
        char = text[at]
        if char == "\n":
            at += 1
            row += 1
            row_begin = at
        elif char == " ":
            at += 1
        elif char == "#":
            at = _comment_end(text, at)
        else:
            token = _token(text, at, row, at - row_begin + 1)
            found.append(token)
            at += len(token[1])
    found.append(("end", "", row, at - row_begin + 1))
    return found


def _comment_end(text, at):
    end = text.find("\n", at)
    return len(text) if end < 0 else end


def _token(text, at, row, column):
    char = text[at]
    if char in LETTERS:
        word = _word(text, at)
        kind = "keyword" if word in KEYWORDS else "name"
        return (kind, word, row, column)
    if char in DIGITS:
        word = _word(text, at)
        if not _is_number(word):
            raise BadNumber(row, column)
        return ("number", word, row, column)
    pair = text[at:at + 2]
    if pair in LONG_SIGNS:
        return ("sign", pair, row, column)
    if char in SHORT_SIGNS:
        return ("sign", char, row, column)
    raise BadCharacter(row, column)


def _word(text, at):
    end = at
    while end < len(text) and text[end] in WORD_SIGNS:
        end += 1
    return text[at:end]


def _is_number(word):
    # The length is asked first: Python refuses to read very long numbers.
    if len(word) > MOST_DIGITS or (len(word) > 1 and word[0] == "0"):
        return False
    for char in word:
        if char not in DIGITS:
            return False
    return int(word) <= GREATEST_WORD
