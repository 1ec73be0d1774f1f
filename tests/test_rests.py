"""Point 87."""

import itertools
import random

from helpers import NO_SERIES, Case
from leastreader.classes import Classes
from leastreader.controls import ENDED, Controls
from leastreader.errors import BadDeed, BadState, BadWindow, TooLarge
from leastreader.formats import Format
from leastreader.noticing import noticed_by
from leastreader.rests import first_apart, kinds, needs_of, needs_of_all
from slow import COPIES, STOPS, slow_deeds, slow_map, slow_needs, slow_standings, some_deeds, some_formats, some_state
from test_controls import crowd
from test_states import NO_FUTURES
from test_streams import NO_STANDINGS


class Needs(Case):
    def test_point_87_needs_against_the_maps(self):
        dice, some = random.Random(87), 0
        for fmt in some_formats(87, 100, most=15, n=(2, 3), width=(1, 6)):
            for standing in slow_standings(fmt)[:15]:
                futures = [some_deeds(dice, dice.randint(0, 15)) for _ in range(3)]
                every = set()
                for deeds in futures:
                    expected = sorted({-entry for entry in slow_map(fmt, standing, deeds) if entry < 0})
                    self.same(needs_of(fmt, standing, deeds), expected)
                    self.same(needs_of(fmt, list(standing), tuple(deeds)), expected)
                    self.assertTrue(set(expected) <= set(slow_needs(fmt, *standing)))
                    every |= set(expected)
                for given in (futures, tuple(futures)):
                    self.same(needs_of_all(fmt, standing, given), sorted(every))
                    self.same(kinds(fmt, standing, given), fmt.n ** len(every))
                some += len(every) > 1
        self.assertGreater(some, 100)

    def test_point_87_kinds_against_all_windows(self):
        dice, counts = random.Random(871), set()
        for fmt in some_formats(871, 60, most=8, n=(2, 3), width=(1, 3)):
            windows = list(itertools.product(range(fmt.n), repeat=fmt.width))
            for standing in slow_standings(fmt)[:8]:
                futures = [some_deeds(dice, dice.randint(0, 8)) for _ in range(dice.randint(0, 3))]
                told = {str([slow_deeds(fmt, standing + (w,), deeds)[0] for deeds in futures]) for w in windows}
                self.same(kinds(fmt, standing, futures), len(told))
                counts.add(len(told))
                for deeds in futures:
                    needs = needs_of(fmt, standing, deeds)
                    a, b = dice.choice(windows), dice.choice(windows)
                    same = slow_deeds(fmt, standing + (a,), deeds)[0] == slow_deeds(fmt, standing + (b,), deeds)[0]
                    self.assertEqual(same, all(a[-p] == b[-p] for p in needs))
        self.assertTrue({1, 2, 3, 4, 9} <= counts)

    def test_point_87_each_place_is_needed_by_some_future(self):
        for fmt in some_formats(872, 40, most=6, width=(1, 4)):
            classes = Classes(Controls(fmt))
            for standing in slow_standings(fmt):
                places = slow_needs(fmt, *standing)
                futures = [noticed_by(classes, standing, place) for place in places]
                for place, deeds in zip(places, futures):
                    self.assertIn(place, needs_of(fmt, standing, deeds))
                self.same(needs_of_all(fmt, standing, futures), places)
                self.same(kinds(fmt, standing, futures), 2 ** len(places))

    def test_first_unlike_answers(self):
        dice, seen = random.Random(873), set()
        for fmt in some_formats(873, 100, most=15, n=(2, 3), width=(1, 5)):
            for standing in slow_standings(fmt)[:10]:
                deeds = some_deeds(dice, 15)
                a, b = some_state(dice, fmt)[2], some_state(dice, fmt)[2]
                b = dice.choice([b, a, a[:-1] + b[-1:]])
                one, other = [slow_deeds(fmt, standing + (window,), deeds)[0] for window in (a, b)]
                expected = next((at for at in range(15) if one[at] != other[at]), None)
                self.same(first_apart(fmt, standing, deeds, list(a), b), expected)
                self.same(first_apart(fmt, standing, tuple(deeds), b, a), expected)
                seen.add(expected)
        self.assertTrue({None, 0, 1, 2, 3} <= seen)

    def test_no_futures_and_empty_ones(self):
        fmt, start = Format(3, 3, tables=[[(("letter", 0, 1), 2), (("letter", 2, 0), 2), (("copy", 1, 0, 1, 0), 2)]]), ((0, ()), "")
        for none in ([], (), [[]], ["", ()]):
            self.same((needs_of_all(fmt, start, none), kinds(fmt, start, none)), ([], 1))
        self.same((needs_of(fmt, start, ""), first_apart(fmt, start, "", (0, 0, 0), (1, 1, 1))), ([], None))
        self.same(kinds(fmt, start, ["10", ["0", "0", "0"]]), 3)
        self.same(first_apart(fmt, start, "10", (0, 0, 0), (1, 1, 99)), 1)
        self.same(needs_of(Format(2, 3, tables=[STOPS]), (ENDED, ""), ["0", "loss", "restart"]), [])

    def test_losses_restarts_and_refused_deeds(self):
        fmt = Format(2, 3, tables=[STOPS], restarts=True)
        start = ((0, ()), "")
        # Behind a loss place 1 is place 2.
        self.same(needs_of(fmt, start, ["1", "loss", "1", "0"]), [1])
        self.same(needs_of(fmt, start, ["1", "restart", "1", "0"]), [1, 2])
        self.same(needs_of(fmt, start, "11" + "0000"), [])
        self.same(needs_of(fmt, start, ["1", "1", "0", "1", "restart", "1", "0"]), [1, 2])
        self.same(needs_of(Format(2, 3, tables=[STOPS]), start, ["1", "loss", "0"]), [1, 2])


class Wrong(Case):
    def test_errors_in_their_order(self):
        fmt, good = Format(2, 3, tables=[STOPS]), ((0, ()), "1")
        for wrong in NO_STANDINGS:
            self.refused(BadState, needs_of, fmt, wrong, "2")
            self.refused(BadState, needs_of_all, fmt, wrong, None)
            self.refused(BadState, kinds, fmt, wrong, ["2"])
            self.refused(BadState, needs_of_all, fmt, wrong, [])
            self.refused(BadState, kinds, fmt, wrong, [])
            self.refused(BadState, first_apart, fmt, wrong, "2", None, None)
        for wrong in NO_FUTURES:
            self.refused(BadDeed, needs_of, fmt, good, wrong)
            self.refused(BadDeed, needs_of_all, fmt, good, ["01", wrong])
            self.refused(BadDeed, kinds, fmt, good, (wrong,))
            self.refused(BadDeed, first_apart, fmt, good, wrong, None, None)
        for wrong in NO_SERIES + ("", "01"):
            self.refused(BadDeed, needs_of_all, fmt, good, wrong)
            self.refused(BadDeed, kinds, fmt, good, wrong)
        window = (0, 1, 99)
        for wrong in NO_SERIES + ((0, 1), (0, 1, 2), (0, 1, True), "010", (0, 1, 0, 1)):
            self.refused(BadWindow, first_apart, fmt, good, "01", wrong, window)
            self.refused(BadWindow, first_apart, fmt, good, "01", window, wrong)

    def test_too_large_ahead_of_all_other_errors(self):
        fmt = crowd(last=[(("stop",), 4)])
        for call, rest in ((needs_of, ()), (needs_of_all, ()), (kinds, ()), (first_apart, (None, None))):
            self.same(self.refused(TooLarge, call, fmt, None, None, *rest).limit, 150)

    def test_arguments_stay_and_lists_can_be_changed(self):
        fmt, futures = Format(2, 3, tables=[COPIES]), [["1", "0"], "11"]
        found = needs_of_all(fmt, ((0, ()), ""), futures)
        self.same(found, [1, 2])
        found.clear()
        self.same(needs_of_all(fmt, ((0, ()), ""), futures), [1, 2])
        self.same(futures, [["1", "0"], "11"])
