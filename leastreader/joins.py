"""Joins: bits behind which standings are of one class, and pairs of standings that no bits join."""

from leastreader.classes import classes_of
from leastreader.controls import controls_of
from leastreader.errors import TooLarge
from leastreader.lots import by_pattern, check_lot, lost_lot, standing_behind
from leastreader.states import check_standing

MOST_CLASSES = 14


class Lost:
    """The lost lot of a format: its standings and their classes by numbers, and where bits lead them."""

    def __init__(self, fmt):
        self.standings = lost_lot(fmt)
        self.lot_controls = controls_of(fmt)
        self.indexes = {standing: index for index, standing in enumerate(self.standings)}
        # For each standing the indexes of those behind the bits 0 and 1.
        self.moves = []
        for standing in self.standings:
            behind = [standing_behind(self.lot_controls, standing, bit) for bit in "01"]
            self.moves.append((self.indexes[behind[0]], self.indexes[behind[1]]))
        groups = by_pattern(classes_of(fmt), self.standings)
        self.marks = self.found_marks(groups)
        # Behind a bit all standings of a class are of one class, so the first one stands for all.
        firsts = [self.moves[self.indexes[group[0]]] for group in groups]
        self.class_moves = [(self.marks[zero], self.marks[one]) for zero, one in firsts]

    def found_marks(self, groups):
        """For each standing the number of its class."""
        marks = [0] * len(self.standings)
        for mark, group in enumerate(groups):
            for standing in group:
                marks[self.indexes[standing]] = mark
        return marks

    def index_of(self, standing):
        """The index of the standing; raises BadState."""
        return self.indexes[check_standing(self.lot_controls, standing)]


def bits_to(leads, key):
    """The bits that lead to a key; a lead is (key ahead, bit), and that of the first key is None."""
    bits = []
    lead = leads[key]
    while lead is not None:
        bits.append(lead[1])
        lead = leads[lead[0]]
    return "".join(bits[::-1])


def pairs_from(moves, first):
    """The pairs that bits lead to from a first pair, in the order in which they are found."""
    found = {first: True}
    order = [first]
    at = 0
    while at < len(order):
        a, b = order[at]
        for pair in list(zip(moves[a], moves[b])):
            if pair not in found:
                found[pair] = True
                order.append(pair)
        at += 1
    return order


def first_join(moves, first):
    """The first bits that lead the two parts of a pair to one number, or None."""
    leads = {first: None}
    order = [first]
    at = 0
    while at < len(order):
        a, b = order[at]
        if a == b:
            return bits_to(leads, order[at])
        for bit, pair in zip("01", list(zip(moves[a], moves[b]))):
            if pair not in leads:
                leads[pair] = ((a, b), bit)
                order.append(pair)
        at += 1
    return None


def joining_two(fmt, one, other):
    """The first bits that join two standings, or None."""
    lost = Lost(fmt)
    first = (lost.index_of(one), lost.index_of(other))
    return first_join(lost.class_moves, (lost.marks[first[0]], lost.marks[first[1]]))


def closed_pairs(fmt, one, other):
    """The pairs of two standings that no bits join, in the order in which they are found; None if some bits do."""
    lost = Lost(fmt)
    first = (lost.index_of(one), lost.index_of(other))
    if first_join(lost.class_moves, (lost.marks[first[0]], lost.marks[first[1]])) is not None:
        return None
    return [(lost.standings[a], lost.standings[b]) for a, b in pairs_from(lost.moves, first)]


def mask_behind(class_moves, mask, side):
    """The set of the classes behind a bit, as a number with one binary digit for each class."""
    found = 0
    for at, behind in enumerate(class_moves):
        if (mask >> at) & 1 == 1:
            found = found | (1 << behind[side])
    return found


def first_join_of_all(class_moves, mask):
    """The first bits that lead all classes of a set to one class, or None."""
    leads = {mask: None}
    order = [mask]
    at = 0
    while at < len(order):
        now = order[at]
        # A number without one more binary digit 1 below its highest one.
        if now & (now - 1) == 0:
            return bits_to(leads, now)
        for side, bit in enumerate("01"):
            behind = mask_behind(class_moves, now, side)
            if behind not in leads:
                leads[behind] = (now, bit)
                order.append(behind)
        at += 1
    return None


def joining(fmt, lot):
    """The first bits that join the lot, or None."""
    lost = Lost(fmt)
    checked = check_lot(lost.lot_controls, lot)
    if len(lost.class_moves) > MOST_CLASSES:
        raise TooLarge(MOST_CLASSES)
    mask = 0
    for standing in checked:
        mask = mask | (1 << lost.marks[lost.indexes[standing]])
    return first_join_of_all(lost.class_moves, mask)


def joined_pairs(class_moves):
    """The pairs of classes, the lesser number first, that some bits join, each as a key."""
    ahead = {}
    order = [(mark, mark) for mark in range(len(class_moves))]
    found = {pair: True for pair in order}
    for b, other in enumerate(class_moves):
        for a in range(b):
            for one, last in list(zip(class_moves[a], other)):
                ahead.setdefault((min(one, last), max(one, last)), []).append((a, b))
    while len(order) > 0:
        joined = order.pop()
        for pair in ahead.get(joined, []):
            if pair not in found:
                found[pair] = True
                order.append(pair)
    return found


def never_joined(fmt):
    """The first two standings that no bits join, or None."""
    lost = Lost(fmt)
    found = joined_pairs(lost.class_moves)
    for at, mark in enumerate(lost.marks):
        for later in range(at + 1, len(lost.marks)):
            if (min(mark, lost.marks[later]), max(mark, lost.marks[later])) not in found:
                return (lost.standings[at], lost.standings[later])
    return None
