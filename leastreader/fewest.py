"""Fewest tokens: a shortest sequence of letters and copies for a map."""

from leastreader.errors import BadSize, Untold
from leastreader.letters import check_size, is_whole
from leastreader.nearest import least_distance
from leastreader.tokens import MOST_LENGTH


def check_limits(a, most, longest):
    """Raises BadSize if one of the limits is not in its range."""
    check_size(most, 0, a.width)
    check_size(longest, 1, MOST_LENGTH)


def check_told(a, most):
    """Raises Untold if no sequence of tokens with such distances has this map."""
    if least_distance(a) > most:
        raise Untold("a distance is too great")


def run_length(row, at, distance, longest):
    """How many entries from this index on equal the entry the distance before, up to the longest run."""
    many = 0
    while many < longest and at + many < len(row) and row[at + many] == row[at + many - distance]:
        many += 1
    return many


def longest_token(row, at, most, longest):
    """The token that holds the longest stretch from this index of the long row."""
    best = 0
    near = 0
    for distance in range(1, most + 1):
        many = run_length(row, at, distance, longest)
        if many > best:
            best = many
            near = distance
    if best <= 1 and row[at] >= 0:
        return ("letter", row[at])
    return ("copy", near, best)


def held(a, i, j, *, most, longest=40):
    """The token that holds the stretch from i up to j, or None."""
    check_limits(a, most, longest)
    if not is_whole(i) or not is_whole(j) or not 0 <= i < j <= len(a):
        raise BadSize("not a stretch of the map")
    check_told(a, most)
    row = a.long_row()
    if j - i == 1 and row[a.width + i] >= 0:
        return ("letter", row[a.width + i])
    if j - i > longest:
        return None
    for distance in range(1, most + 1):
        if run_length(row, a.width + i, distance, j - i) == j - i:
            return ("copy", distance, j - i)
    return None


def told_length(token):
    """How many entries a letter or a copy outputs."""
    return token[2] if token[0] == "copy" else 1


def fewest_tokens(a, *, most, longest=40):
    """A shortest sequence of tokens within these limits for the map."""
    check_limits(a, most, longest)
    check_told(a, most)
    row = a.long_row()
    found = []
    at = a.width
    while at < len(row):
        token = longest_token(row, at, most, longest)
        found.append(token)
        at = at + told_length(token)
    return found


def unheld(a, *, most, longest=40):
    """The stretches that show that no sequence has fewer tokens."""
    ends = [0]
    for token in fewest_tokens(a, most=most, longest=longest):
        ends.append(ends[-1] + told_length(token))
    return [(ends[i], ends[i + 1] + 1) for i in range(len(ends) - 2)]
