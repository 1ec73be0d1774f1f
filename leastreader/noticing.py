"""Noticing: the places on which the answers to come depend, and streams that output them."""

from leastreader.letters import check_size
from leastreader.likeness import place_window
from leastreader.states import check_standing
from leastreader.telling import told_count


def step_deeds(steps):
    """The deeds of the steps of a walk."""
    deeds = []
    for step in steps:
        if step == "restart":
            deeds.append(step)
        else:
            deeds.extend(list(step))
    return deeds


def spot_of(classes, standing, second):
    """The Reach of the format, the number of the control and the bits begun of a standing; raises BadState."""
    reach = classes.reach(second=second)
    control, begun = check_standing(reach.controls, standing)
    return (reach, reach.controls.number_of(control), begun)


def places_of(classes, standing, *, second=False):
    """The places of the standing, ascending."""
    reach, number, begun = spot_of(classes, standing, second)
    return reach.places(number, begun)


def unnoticed(classes, standing, *, second=False):
    """The places of the window that are not places of the standing, ascending."""
    reach, number, begun = spot_of(classes, standing, second)
    places = reach.places(number, begun)
    return [place for place in range(1, reach.controls.fmt.width + 1) if place not in places]


def copies_place(plain, place):
    """True for a copy that outputs the letter at the place."""
    return plain[0] == "copy" and max(1, plain[1] - plain[2] + 1) <= place <= plain[1]


def steps_beyond(reach, number, begun, place):
    """Steps behind bits begun whose last one outputs the letter at a place up to the standing's depth, or None.

    The word that completes the bits begun is not the last one.
    """
    controls = reach.controls
    if controls.fmt.restarts and place <= reach.of(0):
        return ["restart"] + reach.noticed(0, place)
    for rest in controls.rests(number, begun):
        plain, behind = controls.link(number, begun + rest)
        later = place + told_count(plain)
        if later <= reach.of(behind):
            return [rest] + reach.noticed(behind, later)
    return None


def noticing_steps(reach, number, begun, place):
    """Steps of which the last one alone outputs the letter at a place of the standing."""
    if begun == "":
        # A copy ahead of the last word of such a walk does not look back as far as the place.
        return reach.noticed(number, place)
    controls = reach.controls
    for rest in controls.rests(number, begun):
        if copies_place(controls.token(number, begun + rest), place):
            return [rest]
    return steps_beyond(reach, number, begun, place)


def noticed_by(classes, standing, place, *, second=False):
    """A stream whose last deed outputs the letter at the place, and no deed ahead of it does; or None."""
    reach, number, begun = spot_of(classes, standing, second)
    check_size(place, 1, reach.controls.fmt.width)
    if place not in reach.places(number, begun):
        return None
    return step_deeds(noticing_steps(reach, number, begun, place))


def unsettled(classes, standing, places, *, second=False):
    """Two windows that agree at these places, and deeds that tell them apart; or None if there are none."""
    reach, number, begun = spot_of(classes, standing, second)
    lacking = [place for place in reach.places(number, begun) if place not in places]
    if len(lacking) == 0:
        return None
    width = reach.controls.fmt.width
    deeds = step_deeds(noticing_steps(reach, number, begun, lacking[0]))
    return (place_window(width, 0), place_window(width, lacking[0]), deeds)
