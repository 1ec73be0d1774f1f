"""Futures that are known ahead: which places of the window they need."""

from leastreader.controls import controls_of
from leastreader.errors import BadDeed
from leastreader.letters import check_window, is_series, power
from leastreader.states import after_deeds, check_future, check_standing
from leastreader.streams import deeds_map


def needs_of(fmt, standing, deeds):
    """The needs of the map of the future from the standing, ascending."""
    return deeds_map(fmt, standing, deeds).needs()


def needs_of_all(fmt, standing, futures):
    """The places that are needs of at least one of the futures, ascending."""
    checked = check_standing(controls_of(fmt), standing)
    if not is_series(futures):
        raise BadDeed("not a sequence of futures")
    found = []
    for deeds in futures:
        found.extend(needs_of(fmt, checked, deeds))
    return sorted(set(found))


def kinds(fmt, standing, futures):
    """How many kinds of windows of letters the futures keep apart."""
    return power(fmt.n, len(needs_of_all(fmt, standing, futures)))


def first_apart(fmt, standing, deeds, window, other):
    """The index of the first deed that is answered differently over the two windows, or None."""
    controls = controls_of(fmt)
    control, begun = check_standing(controls, standing)
    taken = check_future(deeds)
    windows = [check_window(row, fmt.n, fmt.width) for row in (window, other)]
    one, last = [after_deeds(controls, (control, begun, row), taken)[0] for row in windows]
    for at in range(len(taken)):
        if one[at] != last[at]:
            return at
    return None
