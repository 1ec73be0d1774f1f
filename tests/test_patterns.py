"""Points 77 and 83."""

import itertools
import random

from helpers import NO_SERIES, Case
from leastreader.controls import ENDED
from leastreader.errors import BadFormat, BadState, BadWindow
from leastreader.formats import Format
from leastreader.leasts import least_state
from leastreader.patterns import alike_windows, filled_pattern, pattern_of, shape_of, unlike_rest
from pairs import AGAINS, classes_of, small_pairs
from slow import (
    COPIES, GAPS, LETTERS, STOPS, slow_blocks, slow_controls, slow_deeds, slow_link, slow_rests, slow_standings,
    some_formats, unknown)
from test_leasts import slow_least
from test_streams import NO_STANDINGS


def slow_pattern(classes, fmt, standing, second):
    held = slow_least(classes, fmt, standing + (unknown(fmt.width),), second)
    return held[:2] + (len(held[2]),)


def one_kind(one, other):
    return one.n == other.n and one.width == other.width


class Patterns(Case):
    def test_point_77_patterns_shapes_and_filled_patterns(self):
        for one, other in small_pairs(77, 60):
            classes = classes_of(one, other)
            for second, fmt in ((False, one), (True, other)):
                for standing in slow_standings(fmt):
                    pattern = pattern_of(classes, standing, second=second)
                    self.same(pattern, slow_pattern(classes, fmt, standing, second))
                    self.same(pattern_of(classes, list(standing), second=second), pattern)
                    shape = shape_of(pattern)
                    self.same(shape[::2], pattern[::2])
                    if pattern[0] == "at":
                        self.same(shape, pattern)
                    else:
                        expected = tuple(
                            (rest, ("told", len(answer[1])) if answer[0] == "told" else answer, cls)
                            for rest, answer, cls in pattern[1])
                        self.same(shape[1], expected)
                    for window in itertools.product((0, 1, 99), repeat=fmt.width):
                        held = least_state(classes, standing + (window,), second=second)
                        self.same(filled_pattern(pattern, window), held)
                        self.same(filled_pattern(pattern, list(window)), held)

    def test_larger_formats(self):
        dice = random.Random(771)
        for fmt in some_formats(771, 50, most=15, n=(2, 3), width=(1, 6)):
            classes = classes_of(fmt)
            for standing in slow_standings(fmt):
                pattern = pattern_of(classes, standing)
                self.same(pattern, slow_pattern(classes, fmt, standing, False))
                window = tuple(dice.choice([0, 1, 99]) for _ in range(fmt.width))
                self.same(filled_pattern(pattern, window), least_state(classes, standing + (window,)))

    def test_by_hand(self):
        classes = classes_of(Format(2, 3, tables=[STOPS], restarts=True))
        self.same(pattern_of(classes, ((0, ()), "")), ("at", 0, 2))
        self.same(pattern_of(classes, (ENDED, "")), ("at", 1, 2))
        pattern = pattern_of(classes, ((0, ()), "1"))
        self.same(pattern, ("in", (("0", ("told", (-2, -1)), 0), ("1", ("stopped",), 1)), 2))
        self.same(shape_of(pattern), ("in", (("0", ("told", 2), 0), ("1", ("stopped",), 1)), 2))
        self.same(filled_pattern(pattern, [0, 1, 99]), ("in", (("0", ("told", (1, 99)), 0), ("1", ("stopped",), 1)), (1, 99)))
        flat = pattern_of(classes_of(Format(2, 3, tables=[LETTERS])), ((0, ()), ""))
        self.same((flat, filled_pattern(flat, (0, 1, 0))), (("at", 0, 0), ("at", 0, ())))
        # A copy that is longer than its distance has its places again and again.
        long = Format(2, 3, tables=[[(("letter", 0, 1), 1), (("copy", 2, 0, 5, 0), 2), (("turn", 0), 2)]])
        self.same(
            pattern_of(classes_of(long), ((0, ()), "1")),
            ("in", (("0", ("told", (-2, -1, -2, -1, -2)), 0), ("1", ("turned",), 0)), 2))


class Windows(Case):
    def test_point_83_counts_against_all_windows(self):
        seen = set()
        for one, other in small_pairs(83, 80):
            if not one_kind(one, other):
                continue
            blocks, classes = slow_blocks((one, other)), classes_of(one, other)
            windows = list(itertools.product(range(one.n), repeat=one.width))
            for second, last in ((False, one), (True, other)):
                for a in slow_standings(one):
                    for b in slow_standings(last):
                        fits = [w for w in windows if blocks[0, a + (w,)] == blocks[int(second), b + (w,)]]
                        found = alike_windows(classes, a, b, second=second)
                        self.same(found[0], len(fits))
                        if not fits:
                            self.same(found, (0, None))
                            continue
                        # The one that is returned has 0 wherever some fitting window has any letter.
                        self.assertIn(found[1], fits)
                        self.same(found[1], min(fits))
                        first, met = pattern_of(classes, a), pattern_of(classes, b, second=second)
                        self.assertEqual(len(fits) == len(windows), first == met)
                        self.same(shape_of(first), shape_of(met))
                        seen.add((first == met, len(fits)))
                        for w in windows:
                            self.assertEqual(filled_pattern(first, w) == filled_pattern(met, w), w in fits)
        self.assertTrue({(True, 4), (False, 1), (False, 2), (True, 2)} <= seen)

    def test_by_hand(self):
        classes = classes_of(Format(2, 3, tables=[COPIES]))
        start = ((0, ()), "")
        self.same(alike_windows(classes, start, start), (8, (0, 0, 0)))
        self.same(alike_windows(classes, list(start), start), (8, (0, 0, 0)))
        self.same(alike_windows(classes, start, ((0, ()), "0")), (0, None))
        self.same(alike_windows(classes, ((0, ()), "0"), ((0, ()), "1")), (2, (0, 1, 0)))
        # Equal shapes and an impossible equation.
        rows = [(("letter", 0, 0), 2), (("letter", 1, 0), 2), (("letter", 1, 0), 2), (("letter", 0, 0), 2)]
        classes = classes_of(Format(2, 3, tables=[rows]))
        one, other = [pattern_of(classes, ((0, ()), bit)) for bit in "01"]
        self.same(shape_of(one), shape_of(other))
        self.same(alike_windows(classes, ((0, ()), "0"), ((0, ()), "1")), (0, None))
        # Place 1 is joined with the letter 1, and places 2 and 3 with one another.
        signs = [("copy", 1, 0, 1, 0), ("copy", 2, 0, 1, 0), ("letter", 0, 0), ("letter", 1, 0)]
        signs += [("letter", 1, 0), ("copy", 3, 0, 1, 0), ("letter", 0, 0), ("letter", 1, 0)]
        classes = classes_of(Format(2, 3, tables=[[(sign, 3) for sign in signs]]))
        self.same(alike_windows(classes, ((0, ()), "0"), ((0, ()), "1")), (2, (0, 0, 1)))

    def test_unlike_rest_against_all_rests(self):
        none, texts = 0, set()
        for one, other in small_pairs(831, 60):
            if not one_kind(one, other):
                continue
            classes = classes_of(one, other)
            for second, last in ((False, one), (True, other)):
                for a in slow_standings(one):
                    for b in slow_standings(last):
                        for window in itertools.product((0, 1, 99), repeat=one.width):
                            expected = self.slow_unlike(classes, one, last, a, b, window, second)
                            found = unlike_rest(classes, a, b, list(window), second=second)
                            self.same(found, expected)
                            none += expected is None
                            texts.add(expected)
        self.assertGreater(none, 500)
        self.assertTrue({"0", "00", "1", "10", None} <= texts)

    def slow_unlike(self, classes, one, other, a, b, window, second):
        rows = []
        for fmt, (control, begun), side in ((one, a, False), (other, b, second)):
            found = {}
            for rest in slow_rests(fmt, control, begun):
                behind = slow_link(fmt, control, begun + rest)[1]
                number = list(slow_controls(fmt)).index(behind)
                answer = slow_deeds(fmt, (control, begun, window), rest)[0][-1]
                found[rest] = answer, classes.class_of(number, second=side)
            rows.append(found)
        return min([rest for rest in {**rows[0], **rows[1]} if rows[0].get(rest) != rows[1].get(rest)], default=None)


class Wrong(Case):
    def test_standings_that_are_none(self):
        fmt = Format(2, 3, tables=[STOPS])
        alone, both = classes_of(fmt), classes_of(fmt, fmt)
        good = ((0, ()), "1")
        for wrong in NO_STANDINGS:
            self.refused(BadState, pattern_of, alone, wrong)
            self.refused(BadState, pattern_of, both, wrong, second=True)
            for one, other in ((wrong, good), (good, wrong), (wrong, wrong)):
                self.refused(BadState, alike_windows, both, one, other, second=True)
                self.refused(BadState, unlike_rest, both, one, other, None, second=True)
                self.refused(BadState, unlike_rest, alone, one, other, None)
        self.refused(BadState, pattern_of, alone, good, second=True)
        self.refused(BadState, alike_windows, alone, good, good, second=True)
        self.refused(BadState, unlike_rest, alone, good, good, None, second=True)

    def test_formats_of_two_kinds(self):
        fmt, good = Format(2, 3, tables=[COPIES]), ((0, ()), "1")
        three = [(("letter", 0, 1), 1), (("letter", 2, 0), 1)]
        for other in (Format(2, 4, tables=[COPIES]), Format(3, 3, tables=[three]), Format(3, 2, tables=[three])):
            classes, last = classes_of(fmt, other), ((0, ()), "")
            self.refused(BadFormat, alike_windows, classes, good, last, second=True)
            self.refused(BadFormat, unlike_rest, classes, good, last, None, second=True)
            self.refused(BadState, alike_windows, classes, good, None, second=True)
            self.refused(BadState, unlike_rest, classes, None, last, None, second=True)
            self.same(alike_windows(classes, good, good), (8, (0, 0, 0)))

    def test_windows_that_are_none(self):
        classes = classes_of(Format(2, 3, tables=[COPIES]))
        for wrong in NO_SERIES + ((0, 1), (0, 1, 2), (0, 1, 0, 1), (0, 1, True), (0, 1, -1), "010"):
            self.refused(BadWindow, unlike_rest, classes, ((0, ()), "0"), ((0, ()), "1"), wrong)

    def test_the_words_count_as_rests_where_nothing_is_begun(self):
        classes = classes_of(Format(2, 2, recents=(1, 2), tables=[AGAINS[0]]))
        # Behind each word the classes differ, even behind that of a letter.
        self.same(unlike_rest(classes, ((0, (1, 2)), ""), ((0, (2, 1)), ""), (0, 0)), "00")
        self.same(unlike_rest(classes, ((0, (1, 2)), "1"), ((0, (2, 1)), "1"), (0, 1)), "0")
        self.same(unlike_rest(classes, ((0, (1, 2)), "1"), ((0, (1, 2)), "1"), (0, 1)), None)
        gaps = classes_of(Format(2, 3, tables=[GAPS]), Format(2, 3, tables=[STOPS]))
        self.same(unlike_rest(gaps, ((0, ()), ""), ((0, ()), ""), (0, 1, 0), second=True), "00")
        self.same(unlike_rest(gaps, ((0, ()), "0"), (ENDED, ""), (0, 1, 0), second=True), "0")
        self.same(unlike_rest(gaps, ((0, ()), ""), ((0, ()), ""), (0, 1, 0)), None)
