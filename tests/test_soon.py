"""Points 121 to 123 and 126."""

import random

from helpers import NO_INTEGERS, Case
from leastreader.controls import Controls
from leastreader.errors import BadSize, BadState, TooLarge
from leastreader.formats import Format
from leastreader.leasts import least_state
from leastreader.lots import classes_of_lot
from leastreader.noticing import places_of
from leastreader.soon import Soon
from leastreader.streams import deeds_map
from losing import small_formats, windows_of
from pairs import classes_of
from slow import (
    COPIES, DEEDS, GAPS, LETTERS, STOPS, remade, slow_controls, slow_deed, slow_deeds, slow_output, slow_standings,
    some_deeds, some_formats, unknown)
from test_controls import crowd
from test_streams import NO_STANDINGS

START = ((0, ()), "")
ROWS = [(("letter", 0, 0), 1), (("letter", 1, 0), 2), (("copy", 3, 0, 2, 0), 2)]


def slow_soon(fmt, standing):
    """For each place the fewest deeds that output it at the last deed, or None: all futures, layer by layer."""
    found, seen, many = [None] * fmt.width, set(), 0
    layer = {tuple(standing) + (unknown(fmt.width),)}
    while layer:
        seen |= layer
        many += 1
        following = set()
        for state in layer:
            for deed in DEEDS:
                answer, (control, begun, window) = slow_deed(fmt, state, deed)
                for entry in slow_output([answer]):
                    if entry < 0 and found[-entry - 1] is None:
                        found[-entry - 1] = many
                # Which letters there are besides the places does not matter.
                following.add((control, begun, tuple(min(entry, 0) for entry in window)))
        layer = following - seen
    return found


def formats(seed, count):
    yield Format(2, 4, tables=[ROWS])
    # A restart brings places sooner, and a loss does.
    far = [(("letter", 0, 0), 5), (("letter", 1, 0), 5), (("turn", 1), 2), (("copy", 2, 0, 1, 0), 2), (("stop",), 3)]
    yield Format(2, 3, tables=[far, [(("letter", 0, 1), 6), (("copy", 3, 0, 1, 0), 9)]], restarts=True)
    yield Format(2, 3, tables=[[(("letter", 0, 1), 9), (("copy", 3, 0, 2, 0), 1)]], restarts=True)
    yield Format(2, 3, tables=[[(("letter", 0, 1), 9), (("copy", 3, 0, 1, 0), 1)]], restarts=True)
    yield from small_formats(seed, count)
    yield from some_formats(seed + 1, count // 2, most=8, n=(2, 3), width=(1, 4))


class Soonest(Case):
    def test_point_121_the_fewest_deeds(self):
        seen = set()
        for fmt in formats(121, 60):
            soon, controls = Soon(fmt), Controls(fmt)
            for standing in slow_standings(fmt):
                expected = slow_soon(fmt, standing)
                self.same(soon.by_place(standing), expected)
                self.same(soon.by_place(list(standing)), expected)
                for place in range(1, fmt.width + 1):
                    self.same(soon.from_standing(standing, place), expected[place - 1])
                    if standing[1] == "":
                        self.same(soon.of(controls.number_of(standing[0]), place), expected[place - 1])
                    self.check_stream(fmt, standing, place, soon.stream(standing, place), expected[place - 1])
                    seen.add((standing[1] == "", standing[0] == (-1, ()), expected[place - 1] is None))
                self.same(soon.horizon(standing), max([count for count in expected if count], default=0))
        self.assertTrue({(True, True, False), (True, True, True), (False, False, True), (True, False, False)} <= seen)

    def check_stream(self, fmt, standing, place, deeds, count):
        if count is None:
            self.same(deeds, None)
            return
        self.assertIsInstance(deeds, list)
        self.same(len(deeds), count)
        answers = slow_deeds(fmt, tuple(standing) + (unknown(fmt.width),), deeds)[0]
        self.assertNotIn(("refused",), answers)
        self.assertIn(-place, slow_output(answers[-1:]))
        self.assertNotIn(-place, slow_output(answers[:-1]))

    def test_losses_and_restarts_that_bring_a_place_sooner(self):
        steps = set()
        for fmt in formats(1211, 60):
            for standing in slow_standings(fmt):
                for place in range(1, fmt.width + 1):
                    deeds = Soon(fmt).stream(standing, place) or []
                    steps |= {(deed, standing[1] == "") for deed in deeds if deed in ("restart", "loss")}
        self.same(len(steps), 4)

    def test_point_122_the_equations(self):
        for fmt in formats(122, 40):
            soon, controls, width = Soon(fmt), Controls(fmt), fmt.width

            def count(number, place):
                found = soon.of(number, place) if place <= width else None
                return 10 ** 9 if found is None else found

            for number in range(len(controls)):
                for begun in controls.begun_words(number):
                    for place in range(1, width + 1):
                        counts = [1 + count(0, place), 1 + count(0, place + 1)] if fmt.restarts else []
                        for rest in controls.rests(number, begun):
                            plain, behind = controls.token(number, begun + rest), controls.behind(number, begun + rest)
                            if plain[0] == "copy":
                                if plain[1] - plain[2] + 1 <= place <= plain[1]:
                                    counts.append(len(rest))
                                counts.append(len(rest) + count(behind, place + plain[2]))
                            elif plain[0] == "letter":
                                counts.append(len(rest) + count(number, place + 1))
                            elif plain[0] == "turn":
                                counts.append(len(rest) + count(behind, place))
                        least = min(counts, default=10 ** 9)
                        found = soon.from_standing((controls.at_number(number), begun), place)
                        self.same(found, None if least >= 10 ** 9 else least)

    def test_point_123_no_sooner_and_which_places(self):
        dice = random.Random(123)
        for fmt in formats(123, 60):
            soon, classes = Soon(fmt), classes_of(fmt)
            standings = slow_standings(fmt)
            for standing in standings:
                counts = soon.by_place(standing)
                self.same([place for place in range(1, fmt.width + 1) if counts[place - 1] is not None], places_of(classes, standing))
                deeds = some_deeds(dice, 15)
                for entry in deeds_map(fmt, standing, deeds):
                    if entry < 0:
                        least = [many for many in range(16) if entry in list(deeds_map(fmt, standing, deeds[:many]))][0]
                        self.assertLessEqual(counts[-entry - 1], least)
            for group in classes_of_lot(classes, standings):
                self.same(len({str(soon.by_place(standing)) for standing in group}), 1)

    def test_point_126_the_horizon(self):
        dice, seen = random.Random(126), set()
        for fmt in list(formats(126, 30)):
            if fmt.n ** fmt.width > 16:
                continue
            soon, classes = Soon(fmt), classes_of(fmt)
            for standing in slow_standings(fmt):
                most = soon.horizon(standing)
                if standing[1] == "":
                    self.assertLessEqual(most, 16 * fmt.width * classes.count())
                else:
                    kinds = {least_state(classes, standing + (window,)) for window in windows_of(fmt)}
                    self.same(len(kinds), fmt.n ** len([count for count in soon.by_place(standing) if count is not None]))
                seen.add(min(most, 5))
        self.assertTrue({0, 1, 2, 3, 4, 5} <= seen)

    def test_places_that_no_stream_outputs(self):
        soon = Soon(Format(2, 4, tables=[ROWS]))
        self.same([soon.of(0, place) for place in (1, 2, 3, 4)], [3, 2, 2, None])
        self.same((soon.stream(START, 4), soon.from_standing(START, 4)), (None, None))
        plain = Soon(Format(2, 24, tables=[LETTERS]))
        self.same((plain.by_place(START), plain.horizon(START)), ([None] * 24, 0))
        ended = ((-1, ()), "")
        self.same(Soon(Format(2, 2, tables=[STOPS])).by_place(ended), [None, None])
        self.same(Soon(Format(2, 2, tables=[STOPS], restarts=True)).by_place(ended), [3, 3])
        self.same(Soon(Format(2, 2, tables=[STOPS], restarts=True)).of(1, 2), 3)

    def test_wrong_values_in_their_order(self):
        fmt = Format(2, 3, tables=[GAPS])
        soon = Soon(fmt)
        for wrong in NO_INTEGERS + (-1, 1, 10 ** 30):
            self.refused(BadState, soon.of, wrong, 0)
        for wrong in NO_STANDINGS:
            self.refused(BadState, soon.from_standing, wrong, 0)
            self.refused(BadState, soon.by_place, wrong)
            self.refused(BadState, soon.stream, wrong, 0)
            self.refused(BadState, soon.horizon, wrong)
        for wrong in NO_INTEGERS + (-1, 0, 4, 10 ** 30):
            self.refused(BadSize, soon.of, 0, wrong)
            self.refused(BadSize, soon.from_standing, START, wrong)
            self.refused(BadSize, soon.stream, START, wrong)
        self.same(self.refused(TooLarge, Soon, crowd(last=[(("stop",), 3)])).limit, 150)

    def test_lists_can_be_changed(self):
        fmt = Format(2, 3, tables=[COPIES], restarts=True)
        soon, standing = Soon(fmt), [(0, ()), "1"]
        for call in (lambda: soon.by_place(standing), lambda: soon.stream(standing, 1)):
            found = call()
            expected = list(found)
            found.clear()
            self.same(call(), expected)
        self.same(standing, [(0, ()), "1"])
        self.same(len(slow_controls(remade(fmt, restarts=False))), 1)
