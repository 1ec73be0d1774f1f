"""Points 26 and 27."""

import random

from helpers import NO_INTEGERS, Case
from leastreader.errors import BadSize, Untold
from leastreader.fewest import fewest_tokens, held, unheld
from leastreader.nearest import least_distance
from leastreader.placemaps import PlaceMap
from test_nearest import all_maps


def some_told_maps(seed, count, *, most_width=4, most_length=9):
    dice = random.Random(seed)
    for _ in range(count):
        width = dice.randint(1, most_width)
        row = list(range(-width, 0))
        for _ in range(dice.randint(0, most_length)):
            row.append(dice.choice([dice.randrange(2)] + row[-width:] * 2))
        yield PlaceMap(row[width:], width)


def slow_held(a, i, j, most, longest):
    """Point 26, word by word."""
    row = list(range(-a.width, 0)) + list(a)
    stretch = range(a.width + i, a.width + j)
    if j - i == 1 and row[a.width + i] >= 0:
        return ("letter", row[a.width + i])
    for d in range(1, most + 1):
        if j - i <= longest and all(row[k] == row[k - d] for k in stretch):
            return ("copy", d, j - i)
    return None


def slow_fewest(a, most, longest):
    """The fewest tokens by all ways to cut the map."""
    best = [0]
    for j in range(1, len(a) + 1):
        best.append(1 + min(best[i] for i in range(j) if slow_held(a, i, j, most, longest) is not None))
    return best[-1]


def limits(a):
    for most in range(least_distance(a), a.width + 1):
        for longest in (1, 2, 3, 40):
            yield most, longest


class Held(Case):
    def test_point_26_stretches(self):
        for a in some_told_maps(26, 120):
            for most, longest in limits(a):
                for i in range(len(a)):
                    for j in range(i + 1, len(a) + 1):
                        found = held(a, i, j, most=most, longest=longest)
                        self.same(found, slow_held(a, i, j, most, longest))

    def test_point_26_edges(self):
        a = PlaceMap((3, 3, 3) + (-1,) * 0, 2)
        self.same(held(a, 0, 1, most=0), ("letter", 3))
        self.same(held(a, 1, 2, most=2), ("letter", 3))
        self.same(held(a, 1, 3, most=2), ("copy", 1, 2))
        self.same(held(a, 1, 3, most=0), None)
        self.same(held(a, 0, 2, most=2), None)
        self.same(held(a, 1, 3, most=1, longest=1), None)
        self.same(held(PlaceMap((-2, -1, -2), 2), 0, 3, most=2), ("copy", 2, 3))
        long = PlaceMap((-1,) * 50, 1)
        self.same(held(long, 0, 40, most=1), ("copy", 1, 40))
        self.same(held(long, 0, 41, most=1), None)

    def test_errors_in_their_order(self):
        a = PlaceMap((99, 0), 2)
        for call in (lambda **k: held(a, 0, 1, **k), lambda **k: fewest_tokens(a, **k), lambda **k: unheld(a, **k)):
            for most in (-1, 3) + NO_INTEGERS:
                self.refused(BadSize, call, most=most)
            for longest in (0, 41) + NO_INTEGERS:
                self.refused(BadSize, call, most=2, longest=longest)
            self.refused(Untold, call, most=2)
        for i, j in ((-1, 1), (0, 0), (1, 1), (1, 0), (0, 3), (2, 3)):
            self.refused(BadSize, held, a, i, j, most=2)
        for wrong in NO_INTEGERS:
            self.refused(BadSize, held, a, wrong, 1, most=2)
            self.refused(BadSize, held, a, 0, wrong, most=2)
        for call in (lambda b, m: held(b, 0, 1, most=m), lambda b, m: fewest_tokens(b, most=m)):
            self.refused(Untold, call, PlaceMap((-2,), 2), 1)
            self.refused(Untold, call, PlaceMap((0, -2), 2), 2)
        self.refused(Untold, unheld, PlaceMap((0, -1), 2), most=1)
        self.refused(BadSize, held, PlaceMap((), 1), 0, 0, most=0)


class Fewest(Case):
    def check(self, a, most, longest):
        tokens = fewest_tokens(a, most=most, longest=longest)
        self.assertIs(type(tokens), list)
        self.assertTrue(PlaceMap.made(tokens, (), a.width) == a)
        self.assertEqual(len(tokens), slow_fewest(a, most, longest))
        # The longest stretch that is held is taken again and again, with the token of point 26.
        i, ends, expected = 0, [0], []
        while i < len(a):
            j = max(j for j in range(i + 1, len(a) + 1) if slow_held(a, i, j, most, longest) is not None)
            expected.append(slow_held(a, i, j, most, longest))
            ends.append(j)
            i = j
        self.same(tokens, expected)
        pairs = [(one, other + 1) for one, other in zip(ends, ends[1:-1])]
        self.same(unheld(a, most=most, longest=longest), pairs)
        for i, j in pairs:
            self.assertIsNone(held(a, i, j, most=most, longest=longest))

    def test_point_27_against_all_cuts(self):
        for a in some_told_maps(27, 300):
            for most, longest in limits(a):
                self.check(a, most, longest)

    def test_point_27_all_small_maps(self):
        for a in all_maps(2, 4):
            try:
                span = least_distance(a)
            except Untold:
                continue
            for most in range(span, 3):
                self.check(a, most, 40)

    def test_point_27_edges(self):
        for call in (fewest_tokens, unheld):
            self.same(call(PlaceMap((), 1), most=0), [])
        self.same(unheld(PlaceMap((5,), 1), most=0), [])
        a = PlaceMap((-1,) * 81, 1)
        self.same(fewest_tokens(a, most=1), [("copy", 1, 40), ("copy", 1, 40), ("copy", 1, 1)])
        self.same(unheld(a, most=1), [(0, 41), (40, 81)])
        self.same(fewest_tokens(PlaceMap((7, 7), 1), most=0), [("letter", 7), ("letter", 7)])

    def test_a_returned_list_can_be_changed(self):
        a = PlaceMap((0, 0, 0, 1), 1)
        for call in (fewest_tokens, unheld):
            found = call(a, most=1)
            expected = list(found)
            found.append(1)
            self.same(call(a, most=1), expected)

    def test_point_0_5_maps_of_2000_entries(self):
        dice = random.Random(2001)
        row = list(range(-24, 0))
        while len(row) < 2024:
            row += [dice.randrange(16)] + [row[-23 + k] for k in range(dice.randint(0, 9))]
        a = PlaceMap(row[24:2024], 24)
        for longest in (1, 40):
            tokens = fewest_tokens(a, most=24, longest=longest)
            told = []
            for token in tokens:
                told.append(token[2] if token[0] == "copy" else 1)
            self.assertEqual(sum(told), 2000)
            self.assertEqual(len(unheld(a, most=24, longest=longest)), len(tokens) - 1)
            self.assertTrue(PlaceMap.made(tokens, (), 24) == a)
        self.same(held(a, 0, 2000, most=24), None)
