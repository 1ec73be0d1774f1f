"""Apart: the fewest deeds that tell two windows apart, and what so many deeds tell at most."""

from leastreader.controls import controls_of
from leastreader.errors import BadSize
from leastreader.letters import at_place, check_window, is_whole, power
from leastreader.soon import soon_of
from leastreader.states import check_standing


def unlike_places(one, other):
    """The places at which two windows differ, ascending."""
    return [place for place in range(1, len(one) + 1) if at_place(one, place) != at_place(other, place)]


def fewest_apart(fmt, standing, window, other):
    """The number of deeds of a shortest future that parts two states of the standing, and such a future; or None."""
    checked = check_standing(controls_of(fmt), standing)
    one, last = [check_window(row, fmt.n, fmt.width) for row in (window, other)]
    soon = soon_of(fmt)
    counts = soon.by_place(checked)
    found = [(counts[place - 1], place) for place in unlike_places(one, last) if counts[place - 1] is not None]
    if len(found) == 0:
        return None
    count, place = min(found)
    return (count, soon.stream(checked, place))


def noticed_within(fmt, standing, most):
    """The places that streams of at most so many deeds output, ascending."""
    checked = check_standing(controls_of(fmt), standing)
    if not is_whole(most) or most < 0:
        raise BadSize("not a number of deeds")
    counts = soon_of(fmt).by_place(checked)
    return [at + 1 for at, count in enumerate(counts) if count is not None and count <= most]


def kinds_within(fmt, standing, most):
    """How many kinds of windows of letters futures of at most so many deeds tell apart."""
    return power(fmt.n, len(noticed_within(fmt, standing, most)))
