"""Points 19, 22, 23 and 24."""

import random

from helpers import NO_INTEGERS, NO_SERIES, Case, all_rows
from leastreader.errors import BadMap, BadRow, BadSize
from leastreader.likeness import common_windows, first_unlike, parting_window, telling_windows
from leastreader.placemaps import PlaceMap


def some_entries(dice, width, length, letters=(0, 1, 99)):
    return [dice.choice(list(letters) + list(range(-width, 0)) * 2) for _ in range(length)]


def some_pairs(seed, count, *, letters=(0, 1, 99), one_length=False):
    """Pairs of maps of one width that are alike at many indexes."""
    dice = random.Random(seed)
    for _ in range(count):
        width, length = dice.randint(1, 4), dice.randint(0, 6)
        one = some_entries(dice, width, length, letters)
        other = [x if dice.random() < 0.6 else dice.choice(some_entries(dice, width, 1, letters)) for x in one]
        if not one_length and dice.random() < 0.3:
            other = other[:dice.randint(0, length)] + some_entries(dice, width, dice.randint(0, 2), letters)
        yield PlaceMap(one, width), PlaceMap(other, width)


class Unlike(Case):
    def test_point_19_first_index(self):
        for a, b in some_pairs(19, 400):
            one, other = list(a), list(b)
            expected = None
            for k in range(max(len(one), len(other))):
                if one[k:k + 1] != other[k:k + 1]:
                    expected = k
                    break
            self.same((first_unlike(a, b), first_unlike(b, a)), (expected, expected))

    def test_point_19_parting_windows(self):
        parted = 0
        for a, b in some_pairs(20, 600):
            window = parting_window(a, b)
            if a == b:
                self.assertIsNone(window)
                continue
            self.assertEqual((len(window), set(window) <= {0, 1}), (a.width, True))
            one, other = a.filled(window), b.filled(window)
            self.assertNotEqual(one, other)
            k = first_unlike(a, b)
            self.same(one[:k], other[:k])
            if len(a) == len(b):
                self.assertNotEqual(one[k], other[k])
            parted += 1
        self.assertGreater(parted, 200)

    def test_point_19_which_window(self):
        for one, other, expected in (
                ((0,), (), (0, 0, 0)), ((-1,), (-1, -2), (0, 0, 0)), ((0, -1), (0,), (0, 0, 0)), ((1,), (2, 0), (0, 0, 0)),
                ((0,), (1,), (0, 0, 0)), ((99,), (15,), (0, 0, 0)), ((0, 99), (0, 0), (0, 0, 0)),
                ((-1,), (0,), (1, 1, 1)), ((0,), (-3,), (1, 1, 1)), ((-1,), (1,), (0, 0, 0)), ((15,), (-2,), (0, 0, 0)),
                ((99,), (-2,), (0, 0, 0)), ((-3,), (99,), (0, 0, 0)), ((-1,), (-2,), (0, 0, 1)),
                ((-2,), (-1,), (0, 1, 0)), ((5, -3), (5, -1), (1, 0, 0)), ((-3, 0), (-2,), (0, 0, 0)),
                ((-1, 0, -2), (-1, -2, 0), (1, 1, 1))):
            self.same(parting_window(PlaceMap(one, 3), PlaceMap(other, 3)), expected)
        self.same(parting_window(PlaceMap((), 24), PlaceMap((0,), 24)), (0,) * 24)
        self.assertIsNone(parting_window(PlaceMap((), 1), PlaceMap((), 1)))

    def test_point_19_equal_maps_output_the_same(self):
        for a, b in some_pairs(21, 300, letters=(0, 1), one_length=True):
            alike = all(a.filled(window) == b.filled(window) for window in all_rows(2, a.width))
            self.assertEqual(alike, parting_window(a, b) is None)

    def test_two_widths(self):
        for call in (first_unlike, parting_window):
            self.refused(BadMap, call, PlaceMap((), 2), PlaceMap((), 3))
            self.refused(BadMap, call, PlaceMap((0,), 24), PlaceMap((0,), 1))


class Telling(Case):
    def test_point_22_against_all_windows(self):
        dice, told = random.Random(22), [0, 0]
        for _ in range(800):
            n, width = dice.randint(2, 3), dice.randint(1, 3)
            a = PlaceMap(some_entries(dice, width, dice.randint(0, 5)), width)
            row = a.filled([dice.randrange(n) for _ in range(width)])
            row = tuple(0 if x == 99 or dice.random() < 0.15 else x for x in row)
            windows = [w for w in all_rows(n, width) if a.filled(w) == row]
            found = telling_windows(a, list(row), n)
            self.assertIs(type(found), tuple)
            told[len(windows) > 0] += 1
            if windows:
                self.same(found, (len(windows), min(windows)))
                self.assertEqual(len(windows), n ** (width - len(a.needs())))
                continue
            longest = max(k for k in range(len(row)) if any(a.filled(w)[:k] == row[:k] for w in all_rows(n, width)))
            self.same(found, (0, longest))
        self.assertGreater(min(told), 100)

    def test_point_22_edges(self):
        self.same(telling_windows(PlaceMap((), 24), (), 16), (16 ** 24, (0,) * 24))
        self.same(telling_windows(PlaceMap((99,), 1), [0], 2), (0, 0))
        self.same(telling_windows(PlaceMap((7, -1), 1), (1, 1), 2), (0, 0))
        self.same(telling_windows(PlaceMap((-2, 1, -2, -1), 3), (1, 1, 1, 0), 3), (3, (0, 1, 0)))
        self.same(telling_windows(PlaceMap((-2, 1, -2, 0), 3), (1, 1, 0, 1), 2), (0, 2))

    def test_errors_in_their_order(self):
        a = PlaceMap((-1, 0), 1)
        for n in (1, 17) + NO_INTEGERS:
            self.refused(BadSize, telling_windows, a, None, n)
        for row in NO_SERIES + ((), (0,), (0, 0, 0), (0, 2), [0, 99], (-1, 0)) + tuple((0, x) for x in NO_INTEGERS):
            self.refused(BadRow, telling_windows, a, row, 2)

    def test_arguments_are_left_as_they_were(self):
        row = [1, 0]
        telling_windows(PlaceMap((-1, 0), 1), row, 2)
        self.same(row, [1, 0])


class Common(Case):
    def test_point_24_against_all_windows(self):
        told = [0, 0]
        for a, b in some_pairs(24, 700, one_length=True):
            for n in (2, 3):
                windows = [w for w in all_rows(n, a.width) if a.filled(w) == b.filled(w)]
                found = common_windows(a, b, n)
                self.assertIs(type(found), tuple)
                told[len(windows) > 0] += 1
                if windows:
                    self.same(found, (len(windows), min(windows)))
                    continue
                reached = [
                    k for k in range(len(a))
                    if any(a.filled(w)[:k] == b.filled(w)[:k] for w in all_rows(n, a.width))]
                self.same(found, (0, max(reached)))
        self.assertGreater(min(told), 100)

    def test_point_23_letters_join_places(self):
        a, b = PlaceMap((-1, -2, -3), 4), PlaceMap((1, 1, -4), 4)
        self.same(common_windows(a, b, 3), (3, (0, 0, 1, 1)))
        self.same(common_windows(PlaceMap((-1, -2, -1), 2), PlaceMap((1, 0, -2), 2), 2), (0, 2))
        self.same(common_windows(PlaceMap((99, 0, -1), 2), PlaceMap((99, 0, 99), 2), 2), (0, 2))
        self.same(common_windows(PlaceMap((), 24), PlaceMap((), 24), 16), (16 ** 24, (0,) * 24))

    def test_errors_in_their_order(self):
        small, wide = PlaceMap((-1, 0), 1), PlaceMap((-1, 0), 2)
        for n in (1, 17) + NO_INTEGERS:
            self.refused(BadSize, common_windows, small, wide, n)
        self.refused(BadMap, common_windows, small, wide, 2)
        self.refused(BadMap, common_windows, small, PlaceMap((-1,), 1), 2)
        for letter in (3, 15):
            self.refused(BadMap, common_windows, small, PlaceMap((-1, letter), 1), 3)
            self.refused(BadMap, common_windows, PlaceMap((letter, 0), 1), small, 3)
            # Also behind an impossible equation.
            self.refused(BadMap, common_windows, PlaceMap((0, -1), 1), PlaceMap((1, letter), 1), 3)
            self.refused(BadMap, common_windows, PlaceMap((0, letter), 1), PlaceMap((1, letter), 1), 3)
        self.same(common_windows(small, PlaceMap((-1, 2), 1), 3), (0, 1))


class Sizes(Case):
    def test_point_0_5_maps_of_2000_entries(self):
        entries = [k % 16 if k % 3 else -(k % 24 + 1) for k in range(2000)]
        a = PlaceMap(entries, 24)
        window = tuple((5 * k) % 16 for k in range(24))
        b = PlaceMap(a.filled(window), 24)
        free = 24 - len(a.needs())
        expected = tuple(letter if 24 - k in a.needs() else 0 for k, letter in enumerate(window))
        self.same(telling_windows(a, a.filled(window), 16), (16 ** free, expected))
        self.same(common_windows(a, b, 16), (16 ** free, expected))
        self.same(first_unlike(a, PlaceMap(entries[:-1] + [-24], 24)), 1999)
