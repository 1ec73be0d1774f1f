"""Points 16, 17, 18, 20, 21, 28 and 29."""

import itertools
import random

from helpers import AGAIN, COPIED, NO_INTEGERS, NO_SERIES, Case, all_rows, slow_run, some_runs, some_tokens, some_window
from leastreader.errors import BadMap, BadRecents, BadRule, BadSize, BadToken, BadWindow
from leastreader.placemaps import PlaceMap
from leastreader.telling import resolved, recents_behind, run_tokens


def some_maps(seed, count, *, most_width=4, most_length=9, holes=True):
    dice = random.Random(seed)
    for _ in range(count):
        width = dice.randint(1, most_width)
        allowed = [0, 1, 15] + [99] * holes + list(range(-width, 0)) * 2
        yield PlaceMap([dice.choice(allowed) for _ in range(dice.randint(0, most_length))], width)


def fill(entries, window):
    return tuple(window[entry] if entry < 0 else entry for entry in entries)


class Made(Case):
    def test_point_16_entries_and_widths(self):
        entries = [0, 15, 99, -1, -24]
        a = PlaceMap(entries, 24)
        entries.append(3)
        self.same((list(a), a.width, len(a)), ([0, 15, 99, -1, -24], 24, 5))
        self.same([len(PlaceMap((), w)) for w in (1, 24)], [0, 0])
        self.same(list(PlaceMap((-1,), 1)), [-1])

    def test_point_16_no_maps(self):
        for width in (0, 25, -1) + NO_INTEGERS:
            self.refused(BadSize, PlaceMap, None, width)
            self.refused(BadSize, PlaceMap, (1,), width)
        for wrong in NO_SERIES + ((16,), [98], (100,), (-3,), [0, -99]) + tuple((0, value) for value in NO_INTEGERS):
            self.refused(BadMap, PlaceMap, wrong, 2)

    def test_point_16_maps_of_sequences(self):
        for n, width, recents, tokens, copied, again in some_runs(16, 400):
            places = tuple(range(-width, 0))
            expected, left, _ = slow_run(tokens, places, recents, copied, again)
            for form in (list, tuple):
                a = PlaceMap.made(form(tokens), form(recents), width, copied=copied, again=again)
                self.same((tuple(a), a.width, a.left()), (expected, width, left))
            stopped = PlaceMap.made(tokens + [("stop",)], recents, width, copied=copied, again=again)
            self.assertTrue(stopped == a)

    def test_point_16_the_empty_sequence(self):
        for tokens in ((), [], [("stop",)], [("turn", 5)]):
            self.same(list(PlaceMap.made(tokens, (), 3)), [])

    def test_made_errors_in_their_order(self):
        for width in (0, 25) + NO_INTEGERS:
            self.refused(BadSize, PlaceMap.made, None, None, width, copied=0, again=0)
        for wrong in NO_SERIES + ((3,), (1,) * 5, [True]):
            self.refused(BadRecents, PlaceMap.made, None, wrong, 2, copied=0, again=0)
        self.refused(BadRule, PlaceMap.made, None, (), 2, copied="swap")
        self.refused(BadRule, PlaceMap.made, None, (), 2, again=None)
        for wrong in NO_SERIES + ([("copy", 3, 1)], [("letter", 16)], [["stop"]], [("stop",), ("letter", 0)], [99]):
            self.refused(BadToken, PlaceMap.made, wrong, (1,), 2)
        self.same(list(PlaceMap.made([("letter", 15)], (), 1)), [15])

    def test_arguments_are_left_as_they_were(self):
        tokens, recents = [("copy", 2, 3), ("again", 0, 0, 1)], [1, 2]
        PlaceMap.made(tokens, recents, 2)
        self.same((tokens, recents), ([("copy", 2, 3), ("again", 0, 0, 1)], [1, 2]))

    def test_made_and_plain_maps_are_equal(self):
        a = PlaceMap.made([("letter", 1), ("copy", 3, 4)], (), 4)
        self.assertIs(a == PlaceMap([1, -2, -1, 1, -2], 4), True)
        self.assertIs(a == PlaceMap([1, -2, -1, 1, -2], 5), False)
        self.assertIs(a == PlaceMap([1, -2, -1, 1, -1], 4), False)
        self.assertIs(a == PlaceMap([1, -2, -1, 1], 4), False)
        for other in (None, [1, -2, -1, 1, -2], (1, -2, -1, 1, -2), 4, "a"):
            self.assertIs(a == other, False)
            self.assertIs(a != other, True)
        self.assertIs(PlaceMap((), 1) == PlaceMap([], 1), True)


class Filled(Case):
    def test_point_17_the_window_that_is_left(self):
        for a in some_maps(17, 200):
            row = tuple(range(-a.width, 0)) + tuple(a)
            self.same(a.left(), row[len(row) - a.width:])
        self.same(PlaceMap((), 3).left(), (-3, -2, -1))

    def test_point_18_filled_by_windows_with_holes(self):
        for n, width, recents, tokens, copied, again in some_runs(18, 200, most_width=4):
            a = PlaceMap.made(tokens, recents, width, copied=copied, again=again)
            dice = random.Random(18)
            for _ in range(5):
                window = some_window(dice, n, width)
                told, left, _ = run_tokens(tokens, window, recents, n=n, copied=copied, again=again)
                self.same(a.filled(window), told)
                self.same(a.filled(list(window)), told)
                self.same(fill(a.left(), window), left)

    def test_point_18_maps_given_by_entries(self):
        self.same(PlaceMap((99, -1, 3, -2, -1), 2).filled([15, 99]), (99, 99, 3, 15, 99))
        self.same(PlaceMap((), 2).filled((0, 0)), ())

    def test_filled_refuses_what_is_no_window(self):
        a = PlaceMap((0, -1), 2)
        for wrong in NO_SERIES + ((), [0], (0, 0, 0), (16, 0), [0, -1], (0, 98)):
            self.refused(BadWindow, a.filled, wrong)
        for wrong in NO_INTEGERS:
            self.refused(BadWindow, a.filled, (0, wrong))
        window = [0, 1]
        a.filled(window)
        self.same(window, [0, 1])


class Joined(Case):
    def test_point_20_joined_maps_of_sequences(self):
        for _, width, recents, tokens, copied, again in some_runs(20, 300):
            whole = PlaceMap.made(tokens, recents, width, copied=copied, again=again)
            for cut in range(len(tokens) + 1):
                behind = recents
                for token in tokens[:cut]:
                    behind = recents_behind(token, behind, width, copied=copied, again=again)
                a = PlaceMap.made(tokens[:cut], recents, width, copied=copied, again=again)
                b = PlaceMap.made(tokens[cut:], behind, width, copied=copied, again=again)
                self.same((list(a + b), (a + b).width), (list(whole), width))

    def test_point_20_order_does_not_matter_and_the_empty_map_changes_nothing(self):
        maps = list(some_maps(21, 90))
        for a, b, c in zip(maps, maps[1:], maps[2:]):
            if a.width == b.width == c.width:
                self.assertTrue((a + b) + c == a + (b + c))
            empty = PlaceMap((), a.width)
            before = list(a)
            self.assertTrue(a + empty == a and empty + a == a)
            self.same(list(a), before)

    def test_point_20_short_maps_show_the_window_behind(self):
        self.same(list(PlaceMap((1,), 3) + PlaceMap((-1, -2, -3, 99), 3)), [1, 1, -1, -2, 99])
        self.same(list(PlaceMap((5, 6, 7, 8), 3) + PlaceMap((-1, -2, -3), 3)), [5, 6, 7, 8, 8, 7, 6])

    def test_two_widths_do_not_join(self):
        for one, other in ((1, 2), (24, 23)):
            with self.assertRaises(BadMap):
                PlaceMap((), one) + PlaceMap((), other)


class Needs(Case):
    def test_point_21_needs(self):
        for a in some_maps(22, 200):
            places = sorted({-entry for entry in a if entry < 0})
            self.same(a.needs(), places)
            self.same([p in a for p in range(-2, 30)], [p in places for p in range(-2, 30)])
            for wrong in NO_INTEGERS + (-99, 99, -1):
                self.assertIs(wrong in a, False)

    def test_zero_is_no_place(self):
        self.assertIs(0 in PlaceMap((0, 99, -1), 1), False)
        self.assertIs(1 in PlaceMap((0, 99, -1), 1), True)
        self.assertIs(True in PlaceMap((-1,), 1), False)

    def test_point_21_windows_that_agree_at_the_needs(self):
        for a in some_maps(23, 60, most_width=3):
            windows = list(itertools.product((0, 1, 99), repeat=a.width))
            for one, other in itertools.product(windows, repeat=2):
                agree = all(one[-p] == other[-p] for p in a.needs())
                self.assertEqual(a.filled(one) == a.filled(other), agree)
                unlike = [p for p in range(1, a.width + 1) if one[-p] != other[-p]]
                at = [k for k, (x, y) in enumerate(zip(a.filled(one), a.filled(other))) if x != y]
                self.same(at, [k for k, entry in enumerate(a) if -entry in unlike])
            for n in (2, 3):
                rows = {a.filled(window) for window in all_rows(n, a.width)}
                self.assertEqual(len(rows), n ** len(a.needs()))

    def test_a_returned_list_can_be_changed(self):
        a = PlaceMap((-2, -1), 2)
        a.needs().append(9)
        list(a).append(9)
        self.same((a.needs(), list(a)), ([1, 2], [-2, -1]))


class Forgotten(Case):
    def test_point_28_forgotten_to_a_depth(self):
        for a in some_maps(28, 100, most_width=3, holes=False):
            for depth in range(a.width + 1):
                left = a.left()
                self.assertIs(a.forgotten(depth), all(left[-p] >= 0 for p in range(1, depth + 1)))
            lefts = [fill(a.left(), window) for window in all_rows(2, a.width)]
            for p in range(1, a.width + 1):
                self.assertEqual(len({window[-p] for window in lefts}) == 1, a.left()[-p] >= 0)
            for depth in range(a.width + 1):
                same = {window[a.width - depth:] for window in lefts}
                self.assertEqual(len(same) == 1, a.forgotten(depth))

    def test_point_28_edges(self):
        self.assertIs(PlaceMap((), 2).forgotten(0), True)
        self.assertIs(PlaceMap((), 2).forgotten(1), False)
        self.assertIs(PlaceMap((1,), 2).forgotten(1), True)
        self.assertIs(PlaceMap((99, 1), 2).forgotten(2), True)
        self.assertIs(PlaceMap((1, -1), 2).forgotten(1), False)
        a = PlaceMap((-1, 0, 0), 3)
        self.same([a.forgotten(depth) for depth in range(4)], [True, True, True, False])
        for depth in (-1, 4) + NO_INTEGERS:
            self.refused(BadSize, a.forgotten, depth)

    def test_point_29_what_has_forgotten_needs_nothing_more(self):
        dice = random.Random(29)
        seen = 0
        for a in some_maps(30, 120, most_width=4):
            for depth in range(a.width + 1):
                if not a.forgotten(depth):
                    continue
                copied, again = dice.choice(COPIED), dice.choice(AGAIN)
                recents = tuple(dice.randint(1, a.width) for _ in range(dice.randint(0, 3)))
                tokens, now = [], recents
                for token in some_tokens(dice, 12, 2, a.width, len(recents), 5):
                    plain = resolved(token, now, a.width)
                    if plain[0] != "copy" or plain[1] <= depth:
                        tokens.append(token)
                        now = recents_behind(token, now, a.width, copied=copied, again=again)
                b = PlaceMap.made(tokens, recents, a.width, copied=copied, again=again)
                self.same((a + b).needs(), a.needs())
                self.assertIs((a + b).forgotten(depth), True)
                seen += len(tokens)
        self.assertGreater(seen, 500)


class Sizes(Case):
    def test_point_0_5_maps_of_2000_entries(self):
        entries = [k % 16 if k % 3 else -(k % 24 + 1) for k in range(2000)]
        a = PlaceMap(entries, 24)
        window = tuple(range(8)) * 3
        self.same(a.filled(window), fill(entries, window))
        self.same(list(a + a), entries + list(fill(entries, (tuple(range(-24, 0)) + tuple(entries))[-24:])))
        self.same(a.needs(), sorted({-entry for entry in entries if entry < 0}))

    def test_point_0_5_maps_of_300_tokens(self):
        dice = random.Random(301)
        tokens = some_tokens(dice, 300, 16, 24, 4, 12)
        a = PlaceMap.made(tokens, (1, 2, 3, 24), 24)
        window = some_window(dice, 16, 24)
        self.same(a.filled(window), slow_run(tokens, window, (1, 2, 3, 24))[0])
