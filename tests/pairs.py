"""Small formats, and pairs of them, whose states can all be looked at one by one."""

import random

from helpers import AGAIN, COPIED, NO_INTEGERS, NO_SERIES, some_recents
from leastreader.classes import Classes
from leastreader.controls import Controls
from leastreader.errors import ReaderError
from leastreader.formats import Format
from slow import COPIES, GAPS, LETTERS, STOPS, remade, shuffled, slow_controls, some_formats

# Formats with the same words, of which letters are copies on the other side.
NO_COMMON = (
    [(("letter", 0, 1), 1), (("copy", 1, 1, 1, 0), 1)], [(("copy", 1, 1, 1, 0), 1), (("letter", 0, 1), 1)])
ONE_COMMON = (
    [(("letter", 0, 0), 2), (("letter", 1, 0), 2), (("copy", 1, 0, 1, 0), 2), (("copy", 2, 0, 1, 0), 2)],
    [(("letter", 0, 0), 2), (("copy", 1, 0, 1, 0), 2), (("letter", 1, 0), 2), (("copy", 2, 0, 1, 0), 2)])
AGAINS = (
    [(("letter", 0, 0), 2), (("letter", 1, 0), 2), (("again", 0, 0, 1, 0), 2), (("again", 1, 0, 1, 0), 2)],
    [(("again", 1, 0, 1, 0), 2), (("again", 0, 0, 1, 0), 2), (("letter", 0, 0), 2), (("letter", 1, 0), 2)])
# The second one has words for all that the first one leaves open, and its words for 00 and 01 are copies.
OPEN = (
    [(("letter", 0, 1), 2)] + [(("stop",), 3)],
    [(("copy", 1, 1, 1, 0), 2), (("stop",), 3), (("letter", 0, 0), 3), (("letter", 1, 0), 4)])

# Values that are no least states.
NO_LEASTS = NO_SERIES + NO_INTEGERS + (
    (), ("at",), ("at", 0), ("at", 0, 0), ("at", 0, [0, 1]), ["at", 0, (0, 1)], ("at", 0, (0, 1), 0), ("at", False, (0, 1)),
    ("at", 0, (0, True)), ("at", 0, (0, None)), ("at", 0, "01"), ("at", "0", (0, 1)), ("at", None, (0, 1)), ("on", 0, (0, 1)),
    (0, "at", (0, 1)), ("in", (), ()), ("in", 0, ()), ("in", (1, 2), ()), ("in", ((),), ()), ("in", [], ()), ("at", -1, (0, 1)),
    ("at", 10 ** 30, (0, 1)), ("in", ((0, 0, 0),), ()), ("in", (("0", 0, 0),), ()), ("in", (("0", (), 0),), ()),
    ("in", (("0", ("told",), 0),), ()), ("in", (("0", ("told", 1), 0),), ()), ("in", (("0", ("told", [1]), 0),), ()),
    ("in", (("0", ([],), 0),), ()), ("in", (("0", ("told", (1,), 1), 0),), ()), (["at"], 0, (0, 1)), ({}, {}, {}),
    ("at", 0, ((0,), 1)), "at 0 0 1", ("at", 0, (0, -1)), ("at", 0, (0, 98)), ("in", "01", ()), ("at", 0, ([], {})),
    ("in", (([], ("told", (1,)), 0),), ()), ("in", ((0, ("told", (1,)), 0),), ()), ("in", (("0", ("told", ([],)), 0),), ()),
    ("in", (("0", ("told", (1,)), []),), ()), ("in", (("0", ("told", (1,)), 0, 0),), ()), ("in", ([0, 1, 2],), ()))


def fixed_pairs():
    """Pairs of formats that are made for what is rare among others."""
    for one, other in (NO_COMMON, ONE_COMMON, OPEN):
        yield Format(2, 2, tables=[one]), Format(2, 2, tables=[other])
    yield Format(2, 2, recents=(1, 2), tables=[AGAINS[0]]), Format(2, 2, recents=(2, 1), tables=[AGAINS[1]])
    yield Format(2, 2, recents=(1, 2), tables=[AGAINS[0]]), Format(2, 3, recents=(2, 1), tables=[AGAINS[0]])
    yield Format(2, 2, tables=[STOPS], restarts=True), Format(2, 2, tables=[STOPS])
    yield Format(2, 3, tables=[GAPS]), Format(2, 3, tables=[COPIES], restarts=True)
    # A begun word of the second one has the words of the first one as its rests.
    turns = [(("letter", 0, 1), 2), (("letter", 0, 1), 2)]
    yield Format(2, 1, tables=[LETTERS]), Format(2, 1, tables=[turns])
    yield Format(2, 2, tables=[COPIES[:1] + [(("turn", 1), 1)], STOPS[:2] + [(("turn", 0), 1)]]), Format(2, 2, tables=[STOPS])
    three = [(("letter", 0, 1), 2), (("letter", 2, 0), 2), (("copy", 1, 0, 1, 0), 2)]
    yield Format(3, 2, tables=[three]), Format(2, 2, tables=[[(("letter", 0, 1), 2), (("copy", 1, 0, 1, 0), 2)]])
    yield Format(2, 2, tables=[[(("letter", 0, 1), 2), (("copy", 1, 1, 1, 0), 2)]]), Format(3, 2, tables=[three])


def small_pairs(seed, count):
    """Pairs of small formats; those of fixed_pairs come first, both ways round."""
    for one, other in fixed_pairs():
        yield one, other
        yield other, one
    dice = random.Random(seed)
    named = {"most": 4, "width": (1, 2), "tables": (1, 2), "pairs": 2}
    for at, fmt in enumerate(some_formats(seed, count, **named)):
        other = (
            fmt, shuffled(dice, fmt), next(some_formats(seed + at, 1, **named)), wider(fmt),
            remade(fmt, restarts=not fmt.restarts))[at % 5]
        if len(slow_controls(other)) <= 8:
            yield fmt, other


def wider(fmt):
    """The format with a greater width."""
    try:
        return remade(fmt, width=fmt.width + 1)
    except ReaderError:
        return fmt


def flat_table(dice, n, width, many, tables, count):
    """The pairs of a table of so many words, all of one length: all letters, copies of the length 1 and turns."""
    signs = [("letter", letter, 0) for letter in range(n)]
    for word in dice.choices(["copy", "copy", "turn"] + ["again"] * 4 * (many > 0), k=count - n):
        if word == "turn":
            signs.append((word, dice.randrange(tables)))
        elif word == "copy":
            signs.append((word, dice.randint(1, width), 0, 1, 0))
        else:
            signs.append((word, dice.randrange(many), dice.choice([0, dice.randrange(width)]), 1, 0))
    dice.shuffle(signs)
    return [(sign, count.bit_length() - 1) for sign in signs]


def flat_pairs(seed, count):
    """Pairs of formats whose tables have the same words, each at times with a letter in the place of a copy."""
    dice = random.Random(seed)
    while count:
        n, width, many, tables, words = (dice.choice(sizes) for sizes in ((2, 2, 3), (2, 3), (0, 1, 2), (1, 1, 2), (4, 4, 8)))
        pair = [Format(
            n, width, recents=some_recents(dice, width, many), copied=dice.choice(COPIED), again=dice.choice(AGAIN),
            tables=[flat_table(dice, n, width, many, tables, words) for _ in range(tables)]) for _ in range(2)]
        if max(len(slow_controls(fmt, 41)) for fmt in pair) <= 40:
            count -= 1
            yield pair


def classes_of(one, other=None):
    return Classes(Controls(one), None if other is None else Controls(other))
