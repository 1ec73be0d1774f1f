"""Turned bits and unlike windows: what they spoil, and when it is healed."""

from leastreader.bitrows import check_bits
from leastreader.classes import classes_of
from leastreader.errors import BadBits, BadSize
from leastreader.letters import check_size, is_series, is_within
from leastreader.patterns import least_at, output_entries
from leastreader.placemaps import unknown_window
from leastreader.states import after_deed, check_future, check_standing, check_state_of
from leastreader.streams import deeds_map


def turned_bit(bits, at):
    """The bits with the bit at the index turned."""
    check_bits(bits)
    if not is_within(at, 0, len(bits) - 1):
        raise BadBits("not an index of the bits")
    return bits[:at] + ("1" if bits[at] == "0" else "0") + bits[at + 1:]


def last_unlike(bits, other):
    """The least number such that the bits agree at all indexes from it on."""
    found = 0
    for at, (bit, met) in enumerate(zip(bits, other)):
        if bit != met:
            found = at + 1
    return found


def healed(fmt, state, bits, other):
    """The least length at which the two rows of bits, read from the state, are healed, or None."""
    classes = classes_of(fmt)
    one = check_state_of(classes.one, state)
    last = one
    if len(check_bits(bits)) != len(check_bits(other)):
        raise BadBits("not of one length")
    first = last_unlike(bits, other)
    for many in range(len(bits) + 1):
        if many >= first and least_at(classes, one, False) == least_at(classes, last, False):
            return many
        if many < len(bits):
            one = after_deed(classes.one, one, bits[many])[1]
            last = after_deed(classes.one, last, other[many])[1]
    return None


def check_places(places, width):
    """Returns the places; raises BadSize unless they are places of a window of this width."""
    if not is_series(places):
        raise BadSize("not a sequence of places")
    for place in places:
        check_size(place, 1, width)
    return places


def spoilt(fmt, standing, deeds, places):
    """The indexes of the output at which the map of the future has one of the places."""
    entries = deeds_map(fmt, standing, deeds)
    check_places(places, fmt.width)
    return [at for at, entry in enumerate(entries) if -entry in places]


def holds_one(held, places):
    """True if a least map holds one of the places."""
    entries = output_entries(held) + list(held[2])
    return any([-entry in places for entry in entries])


def heals(fmt, standing, deeds, places):
    """The least number of the first deeds whose least map holds none of the places, or None."""
    classes = classes_of(fmt)
    state = check_standing(classes.one, standing) + (unknown_window(fmt.width),)
    taken = check_future(deeds)
    check_places(places, fmt.width)
    for many in range(len(taken) + 1):
        if not holds_one(least_at(classes, state, False), places):
            return many
        if many < len(taken):
            state = after_deed(classes.one, state, taken[many])[1]
    return None
