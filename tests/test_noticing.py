"""Point 80."""

import itertools
import random

from helpers import NO_INTEGERS, Case
from leastreader.controls import ENDED
from leastreader.errors import BadSize, BadState
from leastreader.formats import Format
from leastreader.leasts import least_state
from leastreader.noticing import noticed_by, places_of, unnoticed, unsettled
from pairs import classes_of, small_pairs
from slow import (
    COPIES, DEEDS, LETTERS, STOPS, slow_deeds, slow_map, slow_needs, slow_standings, some_formats, some_state, unknown)
from test_streams import NO_STANDINGS


class Checked(Case):
    def check_notices(self, fmt, standing, place, deeds):
        """The deeds are a stream whose last one outputs the place, and no one ahead of it does."""
        self.assertIs(type(deeds), list)
        answers, _ = slow_deeds(fmt, standing + (unknown(fmt.width),), deeds)
        self.assertNotIn(("refused",), answers)
        self.assertIn(-place, answers[-1][1])
        self.assertFalse(any(-place in answer[1] for answer in answers[:-1] if answer[0] == "told"))


class Places(Checked):
    def test_point_80_places_and_streams_that_notice_them(self):
        scattered, cut = 0, 0
        formats = list(some_formats(80, 60, most=12, width=(1, 5)))
        rows = [(("letter", 0, 1), 1), (("again", 0, 4, 1, 0), 2)]
        formats += [
            Format(2, 6, recents=(5, 2), copied="push", tables=[rows], restarts=restarts) for restarts in (False, True)]
        for fmt in formats:
            classes = classes_of(fmt)
            for standing in slow_standings(fmt):
                places = slow_needs(fmt, *standing)
                self.same(places_of(classes, standing), places)
                self.same(places_of(classes, list(standing)), places)
                self.same(unnoticed(classes, standing), [p for p in range(1, fmt.width + 1) if p not in places])
                scattered += places != list(range(1, len(places) + 1))
                for place in range(1, fmt.width + 1):
                    deeds = noticed_by(classes, standing, place)
                    if place in places:
                        self.check_notices(fmt, standing, place, deeds)
                        cut += len(slow_map(fmt, standing, deeds)) > 1
                    else:
                        self.same(deeds, None)
        self.assertGreater(scattered, 1)
        self.assertGreater(cut, 500)

    def test_point_80_the_least_state_changes_exactly_at_the_places(self):
        dice = random.Random(802)
        for fmt in some_formats(802, 60, most=10, n=(2, 3), width=(1, 5)):
            classes = classes_of(fmt)
            for standing in slow_standings(fmt):
                state = some_state(dice, fmt, [standing])
                places = places_of(classes, standing)
                for place in range(1, fmt.width + 1):
                    for entry in list(range(fmt.n)) + [99]:
                        window = list(state[2])
                        window[-place] = entry
                        changed = least_state(classes, state) != least_state(classes, standing + (tuple(window),))
                        self.assertEqual(changed, place in places and entry != state[2][-place])

    def test_point_80_no_future_outputs_another_place(self):
        for fmt in some_formats(803, 25, most=4, width=(1, 4), tables=(1, 2), pairs=2):
            classes = classes_of(fmt)
            for standing in slow_standings(fmt):
                found = set()
                for deeds in itertools.product(DEEDS, repeat=5):
                    found |= {-entry for entry in slow_map(fmt, standing, deeds) if entry < 0}
                self.assertTrue(found <= set(places_of(classes, standing)))

    def test_two_formats(self):
        for one, other in small_pairs(804, 20):
            classes = classes_of(one, other)
            for standing in slow_standings(other):
                places = places_of(classes, standing, second=True)
                self.same(places, slow_needs(other, *standing))
                self.same(len(unnoticed(classes, standing, second=True)), other.width - len(places))
                for place in places:
                    deeds = noticed_by(classes, standing, place, second=True)
                    self.check_notices(other, standing, place, deeds)
                    found = unsettled(classes, standing, [p for p in places if p != place], second=True)
                    self.same(len(found[0]), other.width)


class Unsettled(Checked):
    def test_point_80_sets_of_places_that_are_enough(self):
        dice, enough, lacking_one = random.Random(805), 0, 0
        for fmt in some_formats(805, 60, most=8, width=(1, 4)):
            classes = classes_of(fmt)
            for standing in slow_standings(fmt):
                places = places_of(classes, standing)
                for _ in range(4):
                    given = [dice.randint(-1, fmt.width + 2) for _ in range(dice.randint(0, 6))]
                    given = dice.choice([given, places + given, places[1:] + given[:1]])
                    lacking = [p for p in places if p not in given]
                    for chosen in (given, tuple(given)):
                        found = unsettled(classes, standing, chosen)
                        if not lacking:
                            self.same(found, None)
                            enough += 1
                            continue
                        window, other, deeds = found
                        self.same(window, (0,) * fmt.width)
                        self.same(other, tuple(int(p == lacking[0]) for p in range(fmt.width, 0, -1)))
                        self.check_notices(fmt, standing, lacking[0], deeds)
                        first = slow_deeds(fmt, standing + (window,), deeds)[0]
                        last = slow_deeds(fmt, standing + (other,), deeds)[0]
                        self.same(first[:-1], last[:-1])
                        self.assertNotEqual(first[-1], last[-1])
                        lacking_one += 1
        self.assertGreater(enough, 300)
        self.assertGreater(lacking_one, 300)

    def test_by_hand(self):
        classes = classes_of(Format(2, 4, tables=[COPIES]))
        start = ((0, ()), "")
        self.same((places_of(classes, start), unnoticed(classes, start)), ([1, 2], [3, 4]))
        self.same(noticed_by(classes, start, 2), ["1", "1"])
        self.same(noticed_by(classes, start, 3), None)
        self.same(unsettled(classes, start, []), ((0, 0, 0, 0), (0, 0, 0, 1), noticed_by(classes, start, 1)))
        self.same(unsettled(classes, start, (1, 4, 4)), ((0, 0, 0, 0), (0, 0, 1, 0), ["1", "1"]))
        self.same(unsettled(classes, start, [2, 1, 99, -1, 0]), None)
        flat = classes_of(Format(2, 4, tables=[LETTERS]))
        self.same((places_of(flat, start), unnoticed(flat, start)), ([], [1, 2, 3, 4]))
        self.same((unsettled(flat, start, []), noticed_by(flat, start, 1)), (None, None))
        stops = classes_of(Format(2, 3, tables=[STOPS]), Format(2, 3, tables=[STOPS], restarts=True))
        self.same(places_of(stops, (ENDED, "")), [])
        self.same(places_of(stops, (ENDED, ""), second=True), [1, 2])
        self.same(noticed_by(stops, (ENDED, ""), 2, second=True), ["restart", "1", "0"])


class Wrong(Case):
    def test_standings_and_places_that_are_none(self):
        fmt = Format(2, 3, tables=[STOPS])
        alone, both, good = classes_of(fmt), classes_of(fmt, fmt), ((0, ()), "1")
        for classes, second in ((alone, False), (both, False), (both, True)):
            for wrong in NO_STANDINGS:
                self.refused(BadState, places_of, classes, wrong, second=second)
                self.refused(BadState, unnoticed, classes, wrong, second=second)
                self.refused(BadState, noticed_by, classes, wrong, 0, second=second)
                self.refused(BadState, unsettled, classes, wrong, [], second=second)
            for wrong in (0, 4, -1, 10 ** 30) + NO_INTEGERS:
                self.refused(BadSize, noticed_by, classes, good, wrong, second=second)
                self.refused(BadSize, noticed_by, classes, (ENDED, ""), wrong, second=second)
        self.refused(BadState, places_of, alone, good, second=True)
        self.refused(BadState, unnoticed, alone, good, second=True)
        self.refused(BadState, noticed_by, alone, good, 0, second=True)
        self.refused(BadState, unsettled, alone, good, [], second=True)

    def test_lists_that_were_returned_or_given_can_be_changed(self):
        classes, start, given = classes_of(Format(2, 4, tables=[COPIES])), ((0, ()), ""), [1]
        for call in (
                lambda: places_of(classes, start), lambda: unnoticed(classes, start),
                lambda: noticed_by(classes, start, 1), lambda: unsettled(classes, start, given)[2]):
            found = call()
            before = list(found)
            found.clear()
            self.same(call(), before)
        self.same(given, [1])
