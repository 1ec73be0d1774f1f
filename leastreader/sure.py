"""Sure: bits behind which a reader that has lost its position and its window is in step again."""

from leastreader.bitrows import check_bits
from leastreader.classes import classes_of
from leastreader.controls import controls_of
from leastreader.joins import joining
from leastreader.likeness import place_window
from leastreader.lots import check_lot, lost_lot, moved_lot
from leastreader.patterns import least_at, output_entries
from leastreader.placemaps import unknown_window
from leastreader.states import after_bit, after_deeds


def unknown_states(controls, lot):
    """The states of the standings of a checked lot over the window that is not known."""
    window = unknown_window(controls.fmt.width)
    return [(control, begun, window) for control, begun in lot]


def read_bit(controls, states, bit):
    """The different answers of the states to the bit, and the different states behind it."""
    answers = {}
    behind = {}
    for state in states:
        answer, now = after_bit(controls, state, bit)
        answers[answer] = True
        behind[now] = True
    return (list(answers), list(behind))


def least_place(entries):
    """The place of the least entry that is one, or None."""
    low = min(entries, default=0)
    return -low if low < 0 else None


def held_place(held):
    """A place that a least map holds, or None."""
    return least_place(output_entries(held) + list(held[2]))


def without_twins(classes, states):
    """The states without those that have the first one's least map, up to the first one that has another one."""
    first = least_at(classes, states[0], False)
    for at in range(1, len(states)):
        if least_at(classes, states[at], False) != first:
            return states[:1] + states[at:]
    return states[:1]


def all_sure(classes, states):
    """True if there is one state, and its least map holds no place."""
    return len(states) == 1 and held_place(least_at(classes, states[0], False)) is None


def is_sure(fmt, lot, bits):
    """True if the bits are sure for the lot."""
    classes = classes_of(fmt)
    states = unknown_states(classes.one, check_lot(classes.one, lot))
    for bit in check_bits(bits):
        states = read_bit(classes.one, states, bit)[1]
    return all_sure(classes, without_twins(classes, states))


def unsure(fmt, lot, bits):
    """Two standings, each with a window, behind which the bits do not lead to alike states; None if they are sure."""
    classes = classes_of(fmt)
    standings = check_lot(classes.one, lot)
    if is_sure(fmt, lot, bits):
        return None
    zeros = place_window(fmt.width, 0)
    first = None
    for standing, state in list(zip(standings, unknown_states(classes.one, standings))):
        held = least_at(classes, after_deeds(classes.one, state, bits)[1], False)
        place = held_place(held)
        if place is not None:
            return (standing, zeros, standing, place_window(fmt.width, place))
        if first is None:
            first = held
        elif held != first:
            return (standings[0], zeros, standing, zeros)
    return None


def first_sure(fmt, lot, bits):
    """The least number of the first bits that are sure for the lot, or None."""
    classes = classes_of(fmt)
    states = unknown_states(classes.one, check_lot(classes.one, lot))
    check_bits(bits)
    for many in range(len(bits) + 1):
        # States with one least map have one least map behind all further bits.
        states = without_twins(classes, states)
        if all_sure(classes, states):
            return many
        if many < len(bits):
            states = read_bit(classes.one, states, bits[many])[1]
    return None


def shortest_rest(controls, number, begun):
    """The shortest rest of the bits begun, of equally short ones the least; none for no bits."""
    if begun == "":
        return ""
    return min([(len(rest), rest) for rest in controls.rests(number, begun)])[1]


def sure_row(fmt):
    """Bits that are sure for the lost lot, or None."""
    lot = lost_lot(fmt)
    joined = joining(fmt, lot)
    reach = classes_of(fmt).reach()
    ended = reach.controls.ended_number()
    if joined is None or (ended is not None and reach.of(ended) > 0):
        return None
    control, begun = moved_lot(fmt, lot, joined)[0]
    bits = joined + shortest_rest(reach.controls, reach.controls.number_of(control), begun)
    number = reach.controls.number_of(moved_lot(fmt, lot, bits)[0][0])
    if number == ended:
        return bits
    return bits + fmt.table(reach.controls.at_number(number)[0]).first_word(("letter", 0)) * reach.of(number)


def sure_answers(fmt, lot, bits):
    """For each bit True or False: whether the answer to it is sure."""
    controls = controls_of(fmt)
    states = unknown_states(controls, check_lot(controls, lot))
    found = []
    for bit in check_bits(bits):
        answers, states = read_bit(controls, states, bit)
        row = answers[0][1] if answers[0][0] == "told" else ()
        found.append(len(answers) == 1 and least_place(row) is None)
    return found
