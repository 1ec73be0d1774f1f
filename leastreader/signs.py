"""Signs: tokens, or ranges of tokens that differ in extra bits."""

from leastreader.errors import BadSign
from leastreader.letters import MOST_LETTERS, MOST_WIDTH, check_letters, check_size, check_width, is_within
from leastreader.tokens import MOST_RECENTS, MOST_TABLES, check_many, has_form, is_token, read_written, written
from leastreader.words import in_bits

MOST_EXTRA = 3

# Each word with the number of integers behind it.
SIGN_FORMS = (("letter", 2), ("copy", 4), ("again", 4), ("turn", 1), ("stop", 0))


def check_sizes(n, width, many, tables):
    """Raises BadSize unless these are the sizes of tables."""
    check_letters(n)
    check_width(width)
    check_many(many)
    check_size(tables, 1, MOST_TABLES)


def extra_numbers(sign):
    """The numbers x and y of extra bits, 0 for a part that the sign does not have."""
    if sign[0] == "letter":
        return (sign[2], 0)
    if sign[0] == "copy":
        return (sign[2], sign[4])
    if sign[0] == "again":
        return (0, sign[4])
    return (0, 0)


def token_of(sign, v, u):
    """The token that the sign stands for with this v and this u."""
    if sign[0] == "letter":
        return ("letter", sign[1] + v)
    if sign[0] == "copy":
        return ("copy", sign[1] + v, sign[3] + u)
    if sign[0] == "again":
        return ("again", sign[1], sign[2], sign[3] + u)
    return sign


def spread_out(sign):
    """The pairs (extra bits, token) of a sign that has the form of one."""
    x, y = extra_numbers(sign)
    found = []
    for v in range(1 << x):
        for u in range(1 << y):
            found.append((in_bits(v, x) + in_bits(u, y), token_of(sign, v, u)))
    return found


def is_sign(value, n, width, many, tables):
    """True for a sign that is valid for these sizes, which are not checked."""
    if not has_form(value, SIGN_FORMS):
        return False
    if not all([is_within(number, 0, MOST_EXTRA) for number in extra_numbers(value)]):
        return False
    if value[0] == "turn" and value[1] >= tables:
        return False
    return all([is_token(pair[1], n, width, many) for pair in spread_out(value)])


def check_sign(sign, n, width, many, tables):
    """Returns the sign."""
    check_sizes(n, width, many, tables)
    if not is_sign(sign, n, width, many, tables):
        raise BadSign("not a sign for these sizes")
    return sign


def check_any_sign(sign):
    """Returns a sign that is valid for the greatest sizes."""
    return check_sign(sign, MOST_LETTERS, MOST_WIDTH, MOST_RECENTS, MOST_TABLES)


def spread(sign):
    """The pairs (extra bits, token) of a sign, ascending."""
    return spread_out(check_any_sign(sign))


def shown_sign(sign):
    """The written form of a sign."""
    return written(check_any_sign(sign))


def read_sign(text):
    """The sign that is written so."""
    return check_any_sign(read_written(text, SIGN_FORMS))
