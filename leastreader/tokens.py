"""Tokens: what they are, how they are checked and how they are written."""

from leastreader.errors import BadToken
from leastreader.letters import check_letters, check_size, check_width, is_series, is_whole

MOST_RECENTS = 4
MOST_LENGTH = 40
MOST_TABLES = 6

# Python itself reads no integer of more than 4,300 digits.
MOST_DIGITS = 4000

# Each word with the number of integers behind it.
TOKEN_FORMS = (("letter", 1), ("copy", 2), ("again", 3), ("turn", 1), ("stop", 0))


def check_many(many):
    """Returns the number of recents; raises BadSize."""
    return check_size(many, 0, MOST_RECENTS)


def has_form(value, forms):
    """True for a tuple of a word and as many integers as one of the forms gives it."""
    if not isinstance(value, tuple) or len(value) == 0 or not isinstance(value[0], str):
        return False
    return (value[0], len(value) - 1) in forms and all([is_whole(part) for part in value[1:]])


def token_ranges(word, n, width, many):
    """The least and the greatest value of each integer of a token with this word."""
    if word == "letter":
        return ((0, n - 1),)
    if word == "copy":
        return ((1, width), (1, MOST_LENGTH))
    if word == "again":
        return ((0, many - 1), (0, width - 1), (1, MOST_LENGTH))
    if word == "turn":
        return ((0, MOST_TABLES - 1),)
    return ()


def is_token(value, n, width, many):
    """True for a token of these sizes, which are not checked."""
    if not has_form(value, TOKEN_FORMS):
        return False
    ranges = token_ranges(value[0], n, width, many)
    return all([low <= part <= high for part, (low, high) in zip(value[1:], ranges)])


def check_token(token, n, width, many):
    """Returns the token."""
    check_letters(n)
    check_width(width)
    check_many(many)
    if not is_token(token, n, width, many):
        raise BadToken("not a token")
    return token


def check_tokens(tokens, n, width, many):
    """Returns the sequence of tokens as a tuple; the sizes are not checked."""
    if not is_series(tokens):
        raise BadToken("not a sequence of tokens")
    if not all([is_token(token, n, width, many) for token in tokens]):
        raise BadToken("not a sequence of tokens")
    if ("stop",) in tokens[:-1]:
        raise BadToken("a stop ahead of another token")
    return tuple(tokens)


def written(parts):
    """A word and its integers with one space between."""
    return " ".join([str(part) for part in parts])


def read_number(text):
    """The integer that is written so, or None if no integer of at least 0 is."""
    if not text.isascii() or not text.isdigit() or len(text) > MOST_DIGITS:
        return None
    if text != "0" and text.startswith("0"):
        return None
    return int(text)


def read_written(text, forms):
    """The tuple of one of the forms that is written so, or None if none is."""
    if not isinstance(text, str):
        return None
    parts = text.split(" ")
    # Of what is no number a None is made, which no form allows.
    found = tuple(parts[:1] + [read_number(part) for part in parts[1:]])
    if not has_form(found, forms):
        return None
    return found


def shown_token(token):
    """The written form of a token with any integers of at least 0."""
    if not has_form(token, TOKEN_FORMS) or not all([part >= 0 for part in token[1:]]):
        raise BadToken("not of the form of a token")
    return written(token)


def read_token(text):
    """The token that is written so, with any integers of at least 0."""
    token = read_written(text, TOKEN_FORMS)
    if token is None:
        raise BadToken("not the written form of a token")
    return token
