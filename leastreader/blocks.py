"""Blocks: places of a window that equations join, with letters or without."""

from leastreader.errors import BadMap
from leastreader.letters import HOLE, check_letters, check_width, is_within, power
from leastreader.placemaps import is_map_entry, unknown_window


class Blocks:
    """The places of a window, joined by the equations so far."""

    def __init__(self, width, n):
        check_width(width)
        check_letters(n)
        self._width = width
        self._n = n
        # One mark for each place, the oldest first: the letter of its block, or -p for its least place p.
        self._marks = unknown_window(width)

    def mark_of(self, entry):
        """The mark of the block of a place; a letter or a hole is its own mark."""
        if not is_map_entry(entry, self._n, self._width):
            raise BadMap("not an entry of a map")
        if entry < 0:
            return self._marks[self._width + entry]
        return entry

    def meet(self, one, other):
        """Adds the equation between two entries and returns True; returns False if it is impossible."""
        low, high = sorted([self.mark_of(one), self.mark_of(other)])
        if low == high:
            return True
        if low >= 0 or high == HOLE:
            return False
        # The greater mark stays: a letter ahead of a place, of two places the least one.
        self._marks = tuple([high if mark == low else mark for mark in self._marks])
        return True

    def letter_of(self, place):
        """The letter of the block of the place, or None."""
        if not is_within(place, 1, self._width):
            raise BadMap("not a place")
        mark = self.mark_of(-place)
        return mark if mark >= 0 else None

    def groups(self):
        """The blocks by their least places, each an ascending list."""
        found = {}
        for place in range(1, self._width + 1):
            found.setdefault(self.mark_of(-place), []).append(place)
        return list(found.values())

    def count(self):
        """The number of windows of letters that satisfy the equations."""
        return power(self._n, len({mark for mark in self._marks if mark < 0}))

    def solved(self):
        """The window that has 0 in all blocks without a letter."""
        return tuple([max(mark, 0) for mark in self._marks])
