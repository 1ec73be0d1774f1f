"""Letters, holes, rows and windows, and the small checks that the other modules share."""

from leastreader.errors import BadRow, BadSize, BadWindow

HOLE = 99
MOST_LETTERS = 16
MOST_WIDTH = 24


def is_whole(value):
    """True for an integer."""
    # Python counts True and False as integers; in this package they never are.
    return isinstance(value, int) and not isinstance(value, bool)


def is_within(value, low, high):
    """True for an integer from low to high."""
    return is_whole(value) and low <= value <= high


def is_series(value):
    """True for a tuple or a list."""
    return isinstance(value, (tuple, list))


def is_entry(value, n):
    """True for one of n letters or a hole."""
    return is_within(value, 0, n - 1) or is_within(value, HOLE, HOLE)


def check_size(size, low, high):
    """Returns the size; raises BadSize unless it is an integer from low to high."""
    if not is_within(size, low, high):
        raise BadSize("not a size in its range")
    return size


def check_letters(n):
    """Returns the number of letters; raises BadSize."""
    return check_size(n, 2, MOST_LETTERS)


def check_width(width):
    """Returns the width; raises BadSize."""
    return check_size(width, 1, MOST_WIDTH)


def power(base, times):
    """The product of so many factors that are all the base."""
    found = 1
    for _ in range(times):
        found = found * base
    return found


def check_row(row, n):
    """Returns the row as a tuple."""
    check_letters(n)
    if not is_series(row) or not all([is_entry(entry, n) for entry in row]):
        raise BadRow("not a row of letters and holes")
    return tuple(row)


def check_window(window, n, width):
    """Returns the window as a tuple."""
    check_letters(n)
    check_width(width)
    if not is_series(window) or len(window) != width:
        raise BadWindow("not a window of the width")
    if not all([is_entry(entry, n) for entry in window]):
        raise BadWindow("not a window of letters and holes")
    return tuple(window)


def check_own_window(window, n):
    """Returns a window as a tuple whose width is its length."""
    check_letters(n)
    if not is_series(window):
        raise BadWindow("neither a tuple nor a list")
    return check_window(window, n, len(window))


def at_place(window, place, /):
    """The entry at the place, counted from the end."""
    check_size(place, 1, len(window))
    return window[len(window) - place]


def moved_on(window, row, /):
    """The window behind the row: as many last entries of the two joined as the window has."""
    joined = tuple(window) + tuple(row)
    return joined[len(row):]
