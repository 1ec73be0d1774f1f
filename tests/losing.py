"""Slow lots, made of the words of the points 106 to 119, and the formats and wrong values that their tests share."""

import itertools

from helpers import NO_INTEGERS, NO_SERIES
from leastreader.formats import Format
from slow import (
    COPIES, GAPS, LETTERS, STOPS, slow_begun, slow_controls, slow_deed, slow_deeds, slow_standings, some_formats, unknown)
from test_streams import NO_STANDINGS

NO_LOTS = NO_SERIES + NO_INTEGERS + ((), [], "", {}) + tuple([((0, ()), ""), wrong] for wrong in NO_STANDINGS) + (
    ((0, ()), ""), [((0, ()), "", (0, 1, 0))], [[(0, ()), ""], 0], [((0, []), "")], [([0, ()], "")])

# Words 0, 10, 110 and so on: each begun word is of a class of its own.
CHAIN = [(("letter", 0, 0), k) for k in range(1, 10)]


def small_formats(seed, count):
    """Small formats; some with ENDED, gaps, restarts, or positions that are never joined."""
    yield from (Format(2, 1, tables=[LETTERS]), Format(2, 3, tables=[COPIES]), Format(2, 3, tables=[GAPS]))
    yield from (Format(2, 2, tables=[STOPS], restarts=True), Format(2, 2, tables=[STOPS]))
    # ENDED is reached, but not from the second table.
    yield Format(2, 1, tables=[[(("letter", 0, 1), 2), (("turn", 1), 2), (("stop",), 2)], LETTERS])
    yield from some_formats(seed, count, most=4, n=(2, 3), width=(1, 3), tables=(1, 2), pairs=2)


def chains(*, last):
    """A format whose lost lot has 15 classes, or 14 if the last table has one pair fewer."""
    one = CHAIN + [(("letter", 1, 0), 10), (("turn", 1), 10)]
    other = [(("letter", 1, 0), k) for k in range(1, last)] + [(("letter", 0, 0), last), (("turn", 0), last)]
    return Format(2, 1, tables=[one, other])


def standings_600(*, ended=False):
    """A format of 25 reached controls with 24 begun words each; with a stop ENDED is reached, too."""
    signs = [("letter", 0, 1), ("copy", 1, 2, 1, 0), ("copy", 5, 0, 1, 0), ("stop",) if ended else ("copy", 4, 0, 2, 0)]
    signs += [("copy", 1 + k % 3, 0, 2 + k, 0) for k in range(17)]
    rows = [(sign, 4 if at < 11 else 5) for at, sign in enumerate(signs)]
    return Format(2, 5, recents=(1, 1), copied="push", tables=[rows])


def slow_lost(fmt):
    return [(control, begun) for control in slow_controls(fmt) for begun in slow_begun(fmt, control)]


def slow_behind(fmt, standing, bits):
    """The standing behind the bits."""
    return slow_deeds(fmt, tuple(standing) + (unknown(fmt.width),), bits)[1][:2]


def slow_ordered(fmt, standings):
    order = slow_lost(fmt)
    return sorted(set(standings), key=order.index)


def rows_of_bits(most, least=0):
    """All bits of at most so many, the first ones first."""
    for many in range(least, most + 1):
        yield from ("".join(bits) for bits in itertools.product("01", repeat=many))


def windows_of(fmt):
    """All windows without holes."""
    return list(itertools.product(range(fmt.n), repeat=fmt.width))


def some_lot(dice, fmt, most=6):
    standings = slow_lost(fmt)
    return dice.sample(standings, dice.randint(1, min(most, len(standings))))
