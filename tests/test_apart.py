"""Points 124 to 126."""

import itertools
import random

from helpers import NO_INTEGERS, NO_SERIES, Case
from leastreader.apart import fewest_apart, kinds_within, noticed_within
from leastreader.errors import BadSize, BadState, BadWindow, TooLarge
from leastreader.formats import Format
from leastreader.leasts import least_state
from leastreader.noticing import places_of
from leastreader.soon import Soon
from losing import windows_of
from pairs import classes_of
from slow import COPIES, DEEDS, STOPS, slow_deed, slow_deeds, slow_standings
from test_controls import crowd
from test_soon import ROWS, START, formats
from test_streams import NO_STANDINGS


def slow_apart(fmt, standing, window, other):
    """The number of deeds of a shortest future that parts two states of the standing, or None."""
    layer, seen, many = {(standing + (window,), standing + (other,))}, set(), 0
    while layer:
        seen |= layer
        many += 1
        following = set()
        for pair in layer:
            for deed in DEEDS:
                (answer, one), (met, last) = (slow_deed(fmt, state, deed) for state in pair)
                if answer != met:
                    return many
                following.add((one, last))
        layer = following - seen
    return None


def small(seed, count):
    return [fmt for fmt in formats(seed, count) if fmt.n ** fmt.width <= 16 and len(slow_standings(fmt)) <= 20]


def some_row(dice, fmt):
    return tuple(dice.choice(list(range(fmt.n)) + [99]) for _ in range(fmt.width))


class Apart(Case):
    def test_point_124_the_fewest_deeds_that_part(self):
        dice, seen = random.Random(124), set()
        for fmt in small(124, 60):
            for standing in slow_standings(fmt):
                window = some_row(dice, fmt)
                for other in (some_row(dice, fmt), window, tuple(dice.choice((letter, 1)) for letter in window)):
                    expected = slow_apart(fmt, standing, window, other)
                    found = fewest_apart(fmt, list(standing), list(window), other)
                    self.assertEqual(found is None, expected is None)
                    if found is not None:
                        self.assertIsInstance(found, tuple)
                        count, deeds = found
                        self.assertIsInstance(deeds, list)
                        self.same((count, len(deeds)), (expected, expected))
                        one, last = (slow_deeds(fmt, standing + (row,), deeds)[0] for row in (window, other))
                        self.same(one[:-1], last[:-1])
                        self.assertNotEqual(one[-1], last[-1])
                        self.assertNotIn(("refused",), one)
                    seen.add((window == other, expected is None, 99 in window and 99 in other, standing[1] == ""))
        self.same(len(seen), 12)

    def test_the_example_and_equal_windows(self):
        fmt = Format(2, 4, tables=[ROWS])
        self.same(fewest_apart(fmt, START, (0, 0, 0, 0), (0, 0, 0, 1)), (3, ["0", "1", "1"]))
        self.same(fewest_apart(fmt, START, (0, 0, 0, 0), (1, 0, 0, 0)), None)
        self.same(fewest_apart(fmt, START, (0, 99, 0, 99), (0, 99, 0, 99)), None)
        self.same(fewest_apart(fmt, START, (0, 99, 0, 99), (0, 1, 0, 99))[0], 2)

    def test_point_125_bounded_futures(self):
        seen = set()
        for fmt in small(125, 25):
            for standing in slow_standings(fmt):
                counts = Soon(fmt).by_place(standing)
                for most in range(4):
                    places = noticed_within(fmt, standing, most)
                    self.same(places, [at + 1 for at, count in enumerate(counts) if count is not None and count <= most])
                    kinds = {}
                    for window in windows_of(fmt):
                        answers = [slow_deeds(fmt, standing + (window,), deeds)[0] for deeds in itertools.product(DEEDS, repeat=most)]
                        kinds.setdefault(str(answers), []).append(tuple(window[-place] for place in places))
                    self.same(kinds_within(fmt, standing, most), len(kinds))
                    self.assertTrue(all(len(set(rows)) == 1 for rows in kinds.values()))
                    seen.add((most, len(places)))
        self.assertTrue({(0, 0), (1, 1), (2, 2), (3, 2), (1, 0)} <= seen)

    def test_point_126_within_the_horizon(self):
        found = 0
        for fmt in small(126, 40):
            soon, classes = Soon(fmt), classes_of(fmt)
            for standing in slow_standings(fmt):
                most = soon.horizon(standing)
                self.same(noticed_within(fmt, standing, most), places_of(classes, standing))
                self.same(noticed_within(fmt, standing, 10 ** 30), places_of(classes, standing))
                self.same(noticed_within(fmt, standing, 0), [])
                self.same(kinds_within(fmt, standing, 0), 1)
                if most == 0:
                    continue
                self.assertLess(len(noticed_within(fmt, standing, most - 1)), len(places_of(classes, standing)))
                windows = windows_of(fmt)
                lengths = [
                    slow_apart(fmt, standing, one, other) for one, other in itertools.combinations(windows[:6], 2)
                    if least_state(classes, standing + (one,)) != least_state(classes, standing + (other,))]
                self.assertLessEqual(max(lengths, default=0), most)
                found += max(lengths, default=0) == most
        self.assertGreater(found, 20)

    def test_wrong_values_in_their_order(self):
        fmt = Format(2, 3, tables=[COPIES])
        window = (0, 1, 0)
        for wrong in NO_STANDINGS:
            self.refused(BadState, fewest_apart, fmt, wrong, None, None)
            self.refused(BadState, noticed_within, fmt, wrong, None)
            self.refused(BadState, kinds_within, fmt, wrong, None)
        for wrong in NO_SERIES + ((0, 1), (0, 1, 0, 1), (0, 1, 2), (0, 1, True), None):
            self.refused(BadWindow, fewest_apart, fmt, START, wrong, window)
            self.refused(BadWindow, fewest_apart, fmt, START, window, wrong)
        for wrong in NO_INTEGERS + (-1, -10 ** 30):
            self.refused(BadSize, noticed_within, fmt, START, wrong)
            self.refused(BadSize, kinds_within, fmt, START, wrong)
        fmt = crowd(last=[(("stop",), 3)])
        self.same(self.refused(TooLarge, fewest_apart, fmt, None, None, None).limit, 150)
        for call in (noticed_within, kinds_within):
            self.same(self.refused(TooLarge, call, fmt, None, None).limit, 150)

    def test_lists_can_be_changed(self):
        fmt, standing, window, other = Format(2, 2, tables=[STOPS]), [(0, ()), ""], [0, 1], [0, 0]
        fewest_apart(fmt, standing, window, other)[1].clear()
        noticed_within(fmt, standing, 4).clear()
        self.same((standing, window, other), ([(0, ()), ""], [0, 1], [0, 0]))
        self.same((fewest_apart(fmt, standing, window, other), noticed_within(fmt, standing, 4)), ((2, ["1", "0"]), [1, 2]))
