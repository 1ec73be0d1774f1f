"""Points 25, 28 and 29, the last two over whole maps."""

import itertools
import random

from helpers import Case, some_runs
from leastreader.errors import Untold
from leastreader.nearest import least_distance, nearest_distances, tokens_for
from leastreader.placemaps import PlaceMap


def all_maps(width, most_length, letters=(0, 1)):
    entries = list(range(-width, 0)) + list(letters)
    for length in range(most_length + 1):
        for found in itertools.product(entries, repeat=length):
            yield PlaceMap(found, width)


def told_maps(width, farthest, most_length, letters=(0, 1)):
    """The entries of all maps of sequences with such distances; longer copies are made of copies of one letter."""
    found, front = {()}, [()]
    for now in front:
        if len(now) < most_length:
            row = tuple(range(-width, 0)) + now
            for entry in list(letters) + [row[-d] for d in range(1, farthest + 1)]:
                if now + (entry,) not in found:
                    found.add(now + (entry,))
                    front.append(now + (entry,))
    return found


class Nearest(Case):
    def test_point_25_nearest_distances(self):
        for a in all_maps(3, 4, (0, 99)):
            row = list(range(-3, 0)) + list(a)
            expected = []
            for k, entry in enumerate(a):
                distances = [d for d in range(1, k + 4) if row[3 + k - d] == entry]
                expected.append(min(distances) if entry < 0 else None)
            self.same(nearest_distances(a), expected)

    def test_point_25_distances_beyond_the_width(self):
        self.same(nearest_distances(PlaceMap((0, 99, -3, -3, -1, 5), 3)), [None, None, 5, 1, 5, None])
        self.same(nearest_distances(PlaceMap((), 1)), [])

    def test_point_25_which_maps_are_told(self):
        for width in (1, 2, 3):
            told = [told_maps(width, farthest, 4) for farthest in range(width + 1)]
            for a in all_maps(width, 4):
                spans = [farthest for farthest in range(width + 1) if tuple(a) in told[farthest]]
                if not spans:
                    self.refused(Untold, least_distance, a)
                    self.refused(Untold, tokens_for, a)
                    continue
                self.same(least_distance(a), spans[0])
                tokens = tokens_for(a)
                self.assertIs(type(tokens), list)
                self.assertTrue(PlaceMap.made(tokens, (), width) == a)
                self.assertEqual(max([t[1] for t in tokens if t[0] == "copy"], default=0), spans[0])
                expected = [
                    ("letter", entry) if distance is None else ("copy", distance, 1)
                    for entry, distance in zip(a, nearest_distances(a))]
                self.same(tokens, expected)

    def test_point_25_holes_are_not_told(self):
        for entries in ((99,), (0, 99), (-1, 99, 0)):
            a = PlaceMap(entries, 2)
            self.refused(Untold, least_distance, a)
            self.refused(Untold, tokens_for, a)

    def test_point_25_edges(self):
        self.same((least_distance(PlaceMap((), 24)), tokens_for(PlaceMap((), 24))), (0, []))
        self.same(least_distance(PlaceMap((0, 15), 1)), 0)
        self.same(least_distance(PlaceMap((-24,), 24)), 24)
        self.refused(Untold, least_distance, PlaceMap((0, -24), 24))
        self.same(least_distance(PlaceMap((0, -23), 24)), 24)

    def test_point_25_maps_of_sequences_have_a_span_within_their_distances(self):
        for _, width, recents, tokens, copied, again in some_runs(25, 300):
            a = PlaceMap.made(tokens, recents, width, copied=copied, again=again)
            self.assertLessEqual(least_distance(a), width)
            self.assertTrue(PlaceMap.made(tokens_for(a), (), width) == a)

    def test_a_returned_list_can_be_changed(self):
        a = PlaceMap((-1, 0), 1)
        nearest_distances(a).append(1)
        tokens_for(a).append(1)
        self.same((nearest_distances(a), tokens_for(a)), ([1, None], [("copy", 1, 1), ("letter", 0)]))


class Forgotten(Case):
    def test_point_28_and_29_over_whole_maps(self):
        width, seen = 3, 0
        told = [b for b in all_maps(width, 3) if tuple(b) in told_maps(width, width, 3)]
        for a in all_maps(width, 3, (0, 99)):
            for depth in range(width + 1):
                if a.forgotten(depth):
                    self.assertTrue(all(entry >= 0 for entry in a.left()[width - depth:]))
                    for b in told:
                        if least_distance(b) <= depth:
                            self.same((a + b).needs(), a.needs())
                            self.assertIs((a + b).forgotten(depth), True)
                            seen += 1
        self.assertGreater(seen, 3000)


class Sizes(Case):
    def test_point_0_5_maps_of_2000_entries(self):
        dice = random.Random(2000)
        entries = list(range(-24, 0))
        for _ in range(1976):
            entries.append(dice.choice([dice.randrange(16), entries[-dice.randint(1, 24)]]))
        a = PlaceMap(entries, 24)
        self.same(least_distance(a), 24)
        self.assertTrue(sum(1 for d in nearest_distances(a) if d is None) == sum(1 for x in entries if x >= 0))
        for cut in range(0, 2000, 300):
            b = PlaceMap(entries[:cut + 300], 24)
            self.assertTrue(PlaceMap.made(tokens_for(b), (), 24) == b)
