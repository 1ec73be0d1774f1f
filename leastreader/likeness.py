"""Maps that output the same: the windows that tell two maps apart, and the windows that fit."""

from leastreader.blocks import Blocks
from leastreader.errors import BadMap, BadRow
from leastreader.letters import HOLE, check_letters, is_series, is_within, power


def check_widths(a, b):
    """Raises BadMap if the widths of two maps differ."""
    if a.width != b.width:
        raise BadMap("two widths")


def place_window(width, place):
    """The window that has 1 at the place and 0 elsewhere; place 0 stands for none."""
    return tuple([1 if p == place else 0 for p in range(width, 0, -1)])


def first_unlike(a, b):
    """The least index at which two maps differ, or None."""
    check_widths(a, b)
    for index, (one, other) in enumerate(zip(a, b)):
        if one != other:
            return index
    if len(a) != len(b):
        return min(len(a), len(b))
    return None


def parting_window(a, b):
    """A window over which two maps output different rows, or None if they are equal."""
    index = first_unlike(a, b)
    if index is None:
        return None
    if len(a) != len(b):
        return place_window(a.width, 0)
    first = list(a)[index]
    greater = max(first, list(b)[index])
    if greater < 0:
        return place_window(a.width, -first)
    # The two differ, so the other one is a place: against the letter 0 it is told by 1s.
    if greater == 0:
        return (1,) * a.width
    return place_window(a.width, 0)


def telling_windows(a, row, n):
    """How many windows make the map output the row, and one of them; or 0 and the least conflict."""
    check_letters(n)
    if not is_series(row) or len(row) != len(a):
        raise BadRow("not a row as long as the map")
    if not all([is_within(letter, 0, n - 1) for letter in row]):
        raise BadRow("not a row of letters")
    held = {}
    for index, (entry, letter) in enumerate(zip(a, row)):
        # What is no place stands for itself; a place stands for the letter that it was first met with.
        if entry < 0:
            known = held.setdefault(entry, letter)
        else:
            known = entry
        if known != letter:
            return (0, index)
    window = tuple([held.get(entry, 0) for entry in range(-a.width, 0)])
    return (power(n, a.width - len(held)), window)


def common_windows(a, b, n):
    """Over how many windows two maps output the same, and one of them; or 0 and the first impossible index."""
    check_letters(n)
    check_widths(a, b)
    if len(a) != len(b):
        raise BadMap("two lengths")
    if not all([entry < n or entry == HOLE for entry in list(a) + list(b)]):
        raise BadMap("a letter beyond n")
    blocks = Blocks(a.width, n)
    for index, (one, other) in enumerate(zip(a, b)):
        if not blocks.meet(one, other):
            return (0, index)
    return (blocks.count(), blocks.solved())
