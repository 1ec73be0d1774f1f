"""What tokens output over a window, and what they leave of the window and of the recents."""

from leastreader.letters import MOST_LETTERS, check_own_window, moved_on
from leastreader.recents import again_moved, check_again, check_copied, check_recents, copy_moved
from leastreader.tokens import check_token, check_tokens


def resolve(token, recents, width):
    """The resolved token; nothing is checked."""
    if token[0] == "again":
        return ("copy", 1 + (recents[token[1]] - 1 + token[2]) % width, token[3])
    if token[0] == "turn":
        return ("turn",)
    return token


def told_row(plain, window):
    """The output of a resolved token; nothing is checked, and the window may hold any values."""
    if plain[0] == "letter":
        return (plain[1],)
    if plain[0] == "copy":
        # A copy that is longer than its distance repeats what it has output.
        first = len(window) - plain[1]
        return tuple([window[first + k % plain[1]] for k in range(plain[2])])
    return ()


def told_count(plain):
    """How many letters a resolved token outputs."""
    if plain[0] == "letter":
        return 1
    if plain[0] == "copy":
        return plain[2]
    return 0


def move_recents(token, recents, width, copied, again):
    """The recents behind the token; nothing is checked."""
    if token[0] == "again" and token[2] == 0:
        return again_moved(recents, token[1], again)
    plain = resolve(token, recents, width)
    if plain[0] == "copy":
        return copy_moved(recents, plain[1], copied)
    return recents


def tell(tokens, window, recents, copied, again):
    """Output, window and recents behind the tokens; nothing is checked, the window may hold any values."""
    width = len(window)
    told = []
    now = window
    used = recents
    for token in tokens:
        row = told_row(resolve(token, used, width), now)
        told.extend(row)
        now = moved_on(now, row)
        used = move_recents(token, used, width, copied, again)
    return (tuple(told), now, used)


def resolved(token, recents, width):
    """The resolved token from these recents."""
    used = check_recents(recents, width)
    check_token(token, MOST_LETTERS, width, len(used))
    return resolve(token, used, width)


def output_of(token, window, recents):
    """The output of the token over the window."""
    now = check_own_window(window, MOST_LETTERS)
    used = check_recents(recents, len(now))
    check_token(token, MOST_LETTERS, len(now), len(used))
    return told_row(resolve(token, used, len(now)), now)


def recents_behind(token, recents, width, *, copied="front", again="front"):
    """The recents behind the token."""
    used = check_recents(recents, width)
    check_copied(copied)
    check_again(again)
    check_token(token, MOST_LETTERS, width, len(used))
    return move_recents(token, used, width, copied, again)


def run_tokens(tokens, window, recents, *, n, copied="front", again="front"):
    """The output of the sequence, the window moved on by it and the recents behind it."""
    now = check_own_window(window, n)
    used = check_recents(recents, len(now))
    check_copied(copied)
    check_again(again)
    taken = check_tokens(tokens, n, len(now), len(used))
    return tell(taken, now, used, copied, again)
