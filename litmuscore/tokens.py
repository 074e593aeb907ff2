"""Tokens, into which the lines of texts are divided."""

from litmuscore.errors import TextError

LETTERS = "abcdefghijklmnopqrstuvwxyz"
DIGITS = "0123456789"
SIGNS = ":[]=()"
IN_NAMES = "abcdefghijklmnopqrstuvwxyz0123456789-"


def end_of(line, start, characters):
    """The first place from start on whose character is none of these."""
    end = start
    while end < len(line) and line[end] in characters:
        end += 1
    return end


def token_at(line, start):
    """The kind of the token that begins at the place, and the place behind it; None if there is no token."""
    if line[start] in LETTERS:
        return ("name", end_of(line, start, IN_NAMES))
    if line[start] in DIGITS:
        return ("number", end_of(line, start, DIGITS))
    if line[start] in SIGNS:
        return ("sign", start + 1)
    return None


def tokens_in(line, number):
    """The tuple of the tokens of the line with this number."""
    tokens = []
    place = end_of(line, 0, " ")
    while place < len(line) and line[place] != ";":
        found = token_at(line, place)
        if found is None:
            raise TextError(number, place + 1)
        kind, end = found
        tokens.append((kind, line[place:end], place + 1))
        place = end_of(line, end, " ")
    return tuple(tokens)


def tokens_of(line):
    """The tuple of the tokens of a line, each with its kind, its text and its column."""
    return tokens_in(line, 1)
