"""Maps: what a sequence of tokens outputs over a window that is not known."""

from leastreader.errors import BadMap, BadWindow
from leastreader.letters import MOST_LETTERS, check_size, check_width, is_entry, is_series, is_within
from leastreader.recents import check_again, check_copied, check_recents
from leastreader.telling import tell
from leastreader.tokens import check_tokens


def is_map_entry(value, n, width):
    """True for one of n letters, a hole or -p for a place p of the window."""
    return is_entry(value, n) or is_within(value, -width, -1)


def unknown_window(width):
    """The window in which the letter at place p is written as -p."""
    return tuple(range(-width, 0))


class PlaceMap:
    """A map over windows of one width; an entry -p is the letter at place p."""

    def __init__(self, entries, width):
        check_width(width)
        if not is_series(entries):
            raise BadMap("neither a tuple nor a list")
        if not all([is_map_entry(entry, MOST_LETTERS, width) for entry in entries]):
            raise BadMap("not the entries of a map")
        self._entries = tuple(entries)
        self._width = width

    @classmethod
    def made(cls, tokens, recents, width, *, copied="front", again="front"):
        """The map of the sequence of tokens from these recents."""
        used = check_recents(recents, width)
        check_copied(copied)
        check_again(again)
        taken = check_tokens(tokens, MOST_LETTERS, width, len(used))
        told = tell(taken, unknown_window(width), used, copied, again)
        return cls(told[0], width)

    @property
    def width(self):
        """The width of the window."""
        return self._width

    def __len__(self):
        return len(self._entries)

    def __iter__(self):
        return iter(self._entries)

    def __eq__(self, other):
        return isinstance(other, PlaceMap) and self._width == other._width and self._entries == other._entries

    def __contains__(self, x):
        return is_within(x, 1, self._width) and -x in self._entries

    def __add__(self, other):
        if self._width != other._width:
            raise BadMap("two widths")
        row = self.long_row()
        behind = tuple([row[len(row) + entry] if entry < 0 else entry for entry in other._entries])
        return PlaceMap(self._entries + behind, self._width)

    def long_row(self):
        """The unknown window and behind it the entries, a tuple."""
        return unknown_window(self._width) + self._entries

    def filled(self, window):
        """The output over the window."""
        if not is_series(window) or len(window) != self._width:
            raise BadWindow("not a window of the width")
        if not all([is_entry(entry, MOST_LETTERS) for entry in window]):
            raise BadWindow("not a window of letters and holes")
        return tuple([window[len(window) + entry] if entry < 0 else entry for entry in self._entries])

    def needs(self):
        """The places among the entries, ascending."""
        return [place for place in range(1, self._width + 1) if -place in self._entries]

    def left(self):
        """The window that is left, with places for the letters of the window at the start."""
        return self.long_row()[len(self._entries):]

    def forgotten(self, depth):
        """True if none of the newest entries, as many as the depth, is a place."""
        check_size(depth, 0, self._width)
        return all([entry >= 0 for entry in self.left()[self._width - depth:]])
