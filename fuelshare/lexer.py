"""Splits a source into tokens."""

from fuelshare.errors import SyntaxFault
from fuelshare.nodes import CELLS, Token

KEYWORDS = ("def", "set", "put", "emit", "return", "if", "else", "loop", "call", "share")
SIGNS = "(){}=;,/<>+-*"
LETTERS = "abcdefghijklmnopqrstuvwxyz"
DIGITS = "0123456789"
LONGEST_WORD = 8
LONGEST_NUMBER = 6


def read_tokens(source):
    """Returns the list of all tokens of a source and a last one of the kind "end"."""
    tokens = []
    lines = source.split("\n")
    for line, text in enumerate(lines):
        tokens.extend(read_line(text, line))
    tokens.append(Token("end", "", len(lines), 0))
    return tokens


def read_line(text, line):
    """Returns the list of the tokens of one line, since no token contains a line feed."""
    tokens = []
    column = 0
    while column < len(text):
        if text[column] == " ":
            column += 1
        else:
            token = read_token(text, line, column)
            tokens.append(token)
            column += len(token.text)
    return tokens


def read_token(text, line, column):
    """Returns the token that begins at a column of a line."""
    word = text[column:find_end(text, column)]
    kind = find_kind(word)
    if kind is None:
        raise SyntaxFault(line, column)
    return Token(kind, word, line, column)


def find_end(text, start):
    """Returns the end of the longest run of characters that could be one token."""
    for characters in (LETTERS, DIGITS):
        if text[start] in characters:
            end = start + 1
            while end < len(text) and text[end] in characters:
                end += 1
            return end
    return start + 1


def find_kind(word):
    """Returns the kind of a token, or None if it is invalid."""
    if word in KEYWORDS or word in SIGNS:
        return word
    if word in CELLS:
        return "cell"
    if word[0] in LETTERS and len(word) <= LONGEST_WORD:
        return "word"
    if word[0] in DIGITS and is_number(word):
        return "number"
    return None


def is_number(digits):
    """Returns whether a run of digits is a number."""
    if len(digits) > LONGEST_NUMBER:
        return False
    return digits == "0" or digits[0] != "0"
