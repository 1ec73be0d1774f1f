"""Heard recents: the indexes of the recents on which anything to come depends."""

from leastreader.errors import BadFormat
from leastreader.recents import moved_order


def table_tokens(fmt):
    """For each table the tokens of its words."""
    tables = [fmt.table(number) for number in range(len(fmt))]
    return [[table.token(word) for word in table] for table in tables]


def brings_distance(token):
    """True for a token that moves the recents by the rule called copied."""
    return token[0] == "copy" or (token[0] == "again" and token[2] > 0)


def source_of(fmt, token, k):
    """The index from which the recent at index k comes behind the token, or None."""
    if token[0] == "again" and token[2] == 0:
        return moved_order(len(fmt.recents), fmt.again_rule, [token[1]])[k]
    if not brings_distance(token) or fmt.copied == "keep":
        return k
    if k > 0:
        return k - 1
    return token[1] if token[0] == "again" else None


def wanted(fmt, tokens, heard, number):
    """What the heard set of a table must contain if the sets so far are these."""
    found = [token[1] for token in tokens[number] if token[0] == "again"]
    for token in tokens[number]:
        if token[0] == "turn":
            found.extend(heard[token[1]])
        else:
            found.extend([source_of(fmt, token, k) for k in heard[number]])
    return sorted({k for k in found if k is not None})


def heard_places(fmt):
    """The heard set of each table, an ascending list."""
    tokens = table_tokens(fmt)
    if fmt.copied == "front" and any([brings_distance(token) for row in tokens for token in row]):
        raise BadFormat("the rule called copied is front, and it is used")
    heard = [[] for _ in tokens]
    more = [wanted(fmt, tokens, heard, number) for number in range(len(tokens))]
    while more != heard:
        heard = more
        # A set may lose nothing that it has: a letter keeps each index where it is.
        more = [wanted(fmt, tokens, heard, number) for number in range(len(tokens))]
    return heard
