"""What the tests share: a slow reader made of the words of the document, and cases that check errors."""

import itertools
import random
import unittest

COPIED = ("front", "push", "keep")
AGAIN = ("front", "push", "swap", "keep")

# Values that are no integer of any range, however small or great.
NO_INTEGERS = (True, False, None, "1", 1.0, (1,), [1], {1: 1}, b"1", object())
# Values that are neither a tuple nor a list.
NO_SERIES = (None, 0, 7, True, "01", b"01", {0: 1}, {0, 1}, object(), iter([0, 1]), range(2))


class Case(unittest.TestCase):
    """A test case that can check for just one kind of error."""

    def refused(self, error, call, *args, **named):
        with self.assertRaises(error) as caught:
            call(*args, **named)
        self.assertIs(type(caught.exception), error)
        return caught.exception

    def same(self, found, expected):
        """Equal, and of equal kinds all the way down: no list for a tuple, no True for 1."""
        self.assertEqual(found, expected)
        # The members of equal sets may stand in any order.
        if not isinstance(expected, (set, frozenset)):
            self.assertEqual(repr(found), repr(expected))


def all_rows(n, length):
    return itertools.product(range(n), repeat=length)


def slow_copied(recents, distance, rule):
    found = list(recents)
    if rule == "keep" or not found:
        return tuple(found)
    if rule == "front" and distance in found:
        found.remove(distance)
    else:
        found.pop()
    return tuple([distance] + found)


def slow_again(recents, index, rule):
    found = list(recents)
    if rule == "front":
        found.insert(0, found.pop(index))
    elif rule == "push":
        found.insert(0, found[index])
        found.pop()
    elif rule == "swap" and index > 0:
        found[index - 1], found[index] = found[index], found[index - 1]
    return tuple(found)


def slow_run(tokens, window, recents, copied="front", again="front"):
    """Output, window and recents: each letter is output by itself, and the window moves on by it."""
    now = list(window)
    width = len(now)
    recents = tuple(recents)
    told = []

    def tell(letter):
        told.append(letter)
        now.append(letter)
        del now[0]

    for token in tokens:
        if token[0] == "letter":
            tell(token[1])
        elif token[0] == "copy":
            for _ in range(token[2]):
                tell(now[-token[1]])
            recents = slow_copied(recents, token[1], copied)
        elif token[0] == "again":
            distance = recents[token[1]]
            for _ in range(token[2]):
                distance = distance % width + 1
            for _ in range(token[3]):
                tell(now[-distance])
            if token[2] == 0:
                recents = slow_again(recents, token[1], again)
            else:
                recents = slow_copied(recents, distance, copied)
    return tuple(told), tuple(now), recents


def some_token(dice, n, width, many, longest=40):
    """A token of these sizes, no stop."""
    words = ["letter", "letter", "copy", "copy", "turn"]
    if many:
        words += ["again"] * 3
    word = dice.choice(words)
    if word == "letter":
        return ("letter", dice.randrange(n))
    if word == "copy":
        return ("copy", dice.randint(1, width), dice.randint(1, longest))
    if word == "turn":
        return ("turn", dice.randrange(6))
    step = dice.choice([0, dice.randrange(width)])
    return ("again", dice.randrange(many), step, dice.randint(1, longest))


def some_tokens(dice, count, n, width, many, longest=40):
    return [some_token(dice, n, width, many, longest) for _ in range(count)]


def some_recents(dice, width, many):
    return tuple(dice.randint(1, width) for _ in range(many))


def some_window(dice, n, width, holes=True):
    letters = list(range(n)) + [99] * holes
    return tuple(dice.choice(letters) for _ in range(width))


def some_runs(seed, count, *, most_width=6, longest=8, most_tokens=8):
    """Tuples (n, width, recents, tokens, copied, again), always the same ones for one seed."""
    dice = random.Random(seed)
    for _ in range(count):
        n = dice.choice([2, 3, 16])
        width = dice.randint(1, most_width)
        many = dice.randint(0, 4)
        tokens = some_tokens(dice, dice.randint(0, most_tokens), n, width, many, longest)
        yield n, width, some_recents(dice, width, many), tokens, dice.choice(COPIED), dice.choice(AGAIN)


# A slow table: the words of pairs by the words of points 31 to 33.

def written_in(number, many):
    """The number written in so many bits; no bits at all if there are none."""
    return format(number, f"0{many}b") if many else ""


def slow_free_words(lengths):
    """The free words, or the index of the first length in order that finds none."""
    found, taken = {}, []
    for index in sorted(range(len(lengths)), key=lambda k: (lengths[k], k)):
        for number in range(2 ** lengths[index]):
            word = written_in(number, lengths[index])
            if not any(word.startswith(before) for before in taken):
                break
        else:
            return index
        taken.append(word)
        found[index] = word
    return [found[index] for index in range(len(lengths))]


def slow_spread(sign):
    """The pairs (extra bits, token) of a sign."""
    extra = {"letter": (2, None), "copy": (2, 4), "again": (None, 4)}.get(sign[0], (None, None))
    x, y = [0 if at is None else sign[at] for at in extra]
    found = []
    for v in range(2 ** x):
        for u in range(2 ** y):
            token = {
                "letter": lambda: ("letter", sign[1] + v), "copy": lambda: ("copy", sign[1] + v, sign[3] + u),
                "again": lambda: ("again", sign[1], sign[2], sign[3] + u)}.get(sign[0], lambda: sign)()
            found.append((written_in(v, x) + written_in(u, y), token))
    return found


def slow_words(rows):
    """The words with their tokens, in ascending order."""
    free = slow_free_words([length for _, length in rows])
    found = {word + extra: token for word, (sign, _) in zip(free, rows) for extra, token in slow_spread(sign)}
    return {word: found[word] for word in sorted(found)}


def some_sign(dice, n, width, many, tables):
    """A sign that is valid for these sizes."""
    word = dice.choice(["letter", "copy", "copy", "turn", "stop"] + ["again"] * 2 * (many > 0))
    if word == "letter":
        x = dice.choice([x for x in range(4) if 2 ** x <= n])
        return ("letter", dice.randint(0, n - 2 ** x), x)
    y = dice.randint(0, 2)
    longest = dice.randint(1, 41 - 2 ** y)
    if word == "copy":
        x = dice.choice([x for x in range(4) if 2 ** x <= width])
        return ("copy", dice.randint(1, width + 1 - 2 ** x), x, longest, y)
    if word == "again":
        return ("again", dice.randrange(many), dice.randrange(width), longest, y)
    return ("turn", dice.randrange(tables)) if word == "turn" else ("stop",)


def some_rows(dice, n, width, many, tables, *, pairs=5):
    """The pairs of a table for these sizes; some have gaps and some have none."""
    x = max(x for x in range(4) if 2 ** x <= n)
    signs = [("letter", a, x) for a in range(0, n - 2 ** x + 1, 2 ** x)]
    signs += [("letter", a, 0) for a in range(n - n % 2 ** x, n)]
    signs += [some_sign(dice, n, width, many, tables) for _ in range(max(2 - len(signs), dice.randint(0, pairs)))]
    dice.shuffle(signs)
    lengths = [0]
    while len(lengths) < len(signs):
        at = dice.randrange(len(lengths))
        if lengths[at] < 7:
            lengths[at:at + 1] = [lengths[at] + 1] * 2
    # Longer words leave gaps.
    lengths = [length + dice.choice([0, 0, 0, 1, 2]) * (dice.random() < 0.3) for length in lengths]
    dice.shuffle(lengths)
    return list(zip(signs, lengths))


def some_sized_rows(seed, count, **named):
    """Tuples (sizes, pairs of a table), always the same ones for one seed."""
    dice = random.Random(seed)
    for _ in range(count):
        sizes = {
            "n": dice.choice([2, 3, 4, 8]), "width": dice.randint(1, 9), "many": dice.randint(0, 4),
            "tables": dice.randint(1, 6)}
        rows = some_rows(dice, *sizes.values(), **named)
        if len(slow_words(rows)) <= 120:
            yield sizes, rows
