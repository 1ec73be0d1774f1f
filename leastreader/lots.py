"""Lots: sets of standings, among which a lost reader may be, and what is left of a window that is not known."""

from leastreader.bitrows import check_bits
from leastreader.controls import controls_of
from leastreader.errors import BadLot, BadState, TooLarge
from leastreader.letters import is_series
from leastreader.patterns import least_at, pattern_at
from leastreader.placemaps import unknown_window
from leastreader.states import after_deeds, check_future, check_standing

MOST_STANDINGS = 600


def in_order(controls, standings):
    """The standings in their order, without duplicates."""
    keys = {(controls.number_of(control), begun): True for control, begun in standings}
    return [(controls.at_number(number), begun) for number, begun in sorted(list(keys))]


def check_lot(controls, lot):
    """Returns the standings of the lot in their order, without duplicates."""
    if not is_series(lot) or len(lot) == 0:
        raise BadLot("not a sequence of standings")
    try:
        return in_order(controls, [check_standing(controls, standing) for standing in lot])
    except BadState:
        raise BadLot("not a standing") from None


def lost_lot(fmt):
    """All standings of all reached controls, in their order."""
    found = []
    controls = controls_of(fmt)
    for number, control in enumerate(controls):
        found.extend([(control, begun) for begun in controls.begun_words(number)])
    if len(found) > MOST_STANDINGS:
        raise TooLarge(MOST_STANDINGS)
    return found


def standing_behind(controls, standing, bit):
    """The standing behind a bit; a refused bit leaves the standing as it is."""
    control, begun = standing
    number = controls.number_of(control)
    link = controls.link(number, begun + bit)
    if link is not None:
        return (controls.at_number(link[1]), "")
    if controls.is_begun(number, begun + bit):
        return (control, begun + bit)
    return standing


def moved_lot(fmt, lot, bits):
    """The lot behind the bits."""
    controls = controls_of(fmt)
    found = check_lot(controls, lot)
    for bit in check_bits(bits):
        found = list({standing_behind(controls, standing, bit): True for standing in found})
    return in_order(controls, found)


def by_pattern(classes, standings):
    """The lists of those standings of the first format that have one pattern, ordered by their first standings."""
    found = {}
    for standing in standings:
        found.setdefault(pattern_at(classes, standing, False), []).append(standing)
    return list(found.values())


def classes_of_lot(classes, lot):
    """The standings of the lot by classes."""
    return by_pattern(classes, check_lot(classes.one, lot))


def least_map(classes, standing, deeds, *, second=False):
    """The least state behind the future over a window that is not known."""
    controls = classes.reach(second=second).controls
    state = check_standing(controls, standing) + (unknown_window(controls.fmt.width),)
    return least_at(classes, after_deeds(controls, state, check_future(deeds))[1], second)
