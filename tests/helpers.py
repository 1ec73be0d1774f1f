"""What the tests share: a slow reader made of the words of the document, and cases that check errors."""

import itertools
import random
import unittest

COPIED = ("front", "push", "keep")
AGAIN = ("front", "push", "swap", "keep")

# Values that are no integer of any range, however small or great.
NO_INTEGERS = (True, False, None, "1", 1.0, (1,), [1], {1: 1}, b"1", object())
# Values that are neither a tuple nor a list.
NO_SERIES = (None, 0, 7, True, "01", b"01", {0: 1}, {0, 1}, object(), iter([0, 1]), range(2))


class Case(unittest.TestCase):
    """A test case that can check for just one kind of error."""

    def refused(self, error, call, *args, **named):
        with self.assertRaises(error) as caught:
            call(*args, **named)
        self.assertIs(type(caught.exception), error)
        return caught.exception

    def same(self, found, expected):
        """Equal, and of equal kinds all the way down: no list for a tuple, no True for 1."""
        self.assertEqual(found, expected)
        self.assertEqual(repr(found), repr(expected))


def all_rows(n, length):
    return itertools.product(range(n), repeat=length)


def slow_copied(recents, distance, rule):
    found = list(recents)
    if rule == "keep" or not found:
        return tuple(found)
    if rule == "front" and distance in found:
        found.remove(distance)
    else:
        found.pop()
    return tuple([distance] + found)


def slow_again(recents, index, rule):
    found = list(recents)
    if rule == "front":
        found.insert(0, found.pop(index))
    elif rule == "push":
        found.insert(0, found[index])
        found.pop()
    elif rule == "swap" and index > 0:
        found[index - 1], found[index] = found[index], found[index - 1]
    return tuple(found)


def slow_run(tokens, window, recents, copied="front", again="front"):
    """Output, window and recents: each letter is output by itself, and the window moves on by it."""
    now = list(window)
    width = len(now)
    recents = tuple(recents)
    told = []

    def tell(letter):
        told.append(letter)
        now.append(letter)
        del now[0]

    for token in tokens:
        if token[0] == "letter":
            tell(token[1])
        elif token[0] == "copy":
            for _ in range(token[2]):
                tell(now[-token[1]])
            recents = slow_copied(recents, token[1], copied)
        elif token[0] == "again":
            distance = recents[token[1]]
            for _ in range(token[2]):
                distance = distance % width + 1
            for _ in range(token[3]):
                tell(now[-distance])
            if token[2] == 0:
                recents = slow_again(recents, token[1], again)
            else:
                recents = slow_copied(recents, distance, copied)
    return tuple(told), tuple(now), recents


def some_token(dice, n, width, many, longest=40):
    """A token of these sizes, no stop."""
    words = ["letter", "letter", "copy", "copy", "turn"]
    if many:
        words += ["again"] * 3
    word = dice.choice(words)
    if word == "letter":
        return ("letter", dice.randrange(n))
    if word == "copy":
        return ("copy", dice.randint(1, width), dice.randint(1, longest))
    if word == "turn":
        return ("turn", dice.randrange(6))
    step = dice.choice([0, dice.randrange(width)])
    return ("again", dice.randrange(many), step, dice.randint(1, longest))


def some_tokens(dice, count, n, width, many, longest=40):
    return [some_token(dice, n, width, many, longest) for _ in range(count)]


def some_recents(dice, width, many):
    return tuple(dice.randint(1, width) for _ in range(many))


def some_window(dice, n, width, holes=True):
    letters = list(range(n)) + [99] * holes
    return tuple(dice.choice(letters) for _ in range(width))


def some_runs(seed, count, *, most_width=6, longest=8, most_tokens=8):
    """Tuples (n, width, recents, tokens, copied, again), always the same ones for one seed."""
    dice = random.Random(seed)
    for _ in range(count):
        n = dice.choice([2, 3, 16])
        width = dice.randint(1, most_width)
        many = dice.randint(0, 4)
        tokens = some_tokens(dice, dice.randint(0, most_tokens), n, width, many, longest)
        yield n, width, some_recents(dice, width, many), tokens, dice.choice(COPIED), dice.choice(AGAIN)
