"""Points 23 and 24, as far as Blocks shows them."""

import itertools
import random

from helpers import NO_INTEGERS, Case, all_rows
from leastreader.blocks import Blocks
from leastreader.errors import BadMap, BadSize

HOLE = 99


def fits(window, pairs):
    """True if over the window the two entries of each equation are equal."""
    def filled(entry):
        return window[entry] if entry < 0 else entry
    return all(filled(one) == filled(other) for one, other in pairs)


class Equations(Case):
    def test_point_24_against_all_windows(self):
        dice = random.Random(24)
        for _ in range(500):
            width, n = dice.randint(1, 4), dice.randint(2, 3)
            entries = list(range(-width, n)) + [HOLE]
            blocks, pairs = Blocks(width, n), []
            for _ in range(dice.randint(0, 6)):
                pair = (dice.choice(entries), dice.choice(entries))
                # A hole counts as a letter of its own that no window holds.
                possible = any(fits(w, pairs + [pair]) for w in all_rows(n, width))
                self.assertIs(blocks.meet(*pair), possible)
                if possible:
                    pairs.append(pair)
                self.check(blocks, [w for w in all_rows(n, width) if fits(w, pairs)], width, n)

    def check(self, blocks, windows, width, n):
        self.same(blocks.count(), len(windows))
        self.assertIn(blocks.solved(), windows)
        self.assertIs(type(blocks.solved()), tuple)
        # The first window of all has 0 wherever no letter is fixed.
        self.same(blocks.solved(), min(windows))
        for place in range(1, width + 1):
            letters = {window[-place] for window in windows}
            self.same(blocks.letter_of(place), letters.pop() if len(letters) == 1 else None)
        places = range(1, width + 1)
        groups = [[q for q in places if all(w[-p] == w[-q] for w in windows)] for p in places]
        self.same(blocks.groups(), [group for group, p in zip(groups, places) if group[0] == p])

    def test_point_23_all_places_of_one_letter_are_one_block(self):
        blocks = Blocks(5, 4)
        self.same(blocks.groups(), [[1], [2], [3], [4], [5]])
        done = [blocks.meet(-1, 3), blocks.meet(2, -4), blocks.meet(-5, -2), blocks.meet(-3, 3)]
        self.same(done, [True] * 4)
        self.same(blocks.groups(), [[1, 3], [2, 5], [4]])
        self.same([blocks.letter_of(p) for p in (1, 2, 3, 4, 5)], [3, None, 3, 2, None])
        self.same((blocks.count(), blocks.solved()), (4, (0, 2, 3, 0, 3)))

    def test_point_23_impossible_equations_change_nothing(self):
        blocks = Blocks(3, 3)
        self.assertIs(blocks.meet(-1, 1), True)
        self.assertIs(blocks.meet(-2, 2), True)
        for one, other in ((-1, -2), (-2, -1), (-1, 0), (0, -2), (0, 1), (HOLE, 0), (-3, HOLE), (HOLE, -1), (1, HOLE)):
            self.assertIs(blocks.meet(one, other), False)
            self.same(blocks.groups(), [[1], [2], [3]])
            self.same((blocks.count(), blocks.solved()), (3, (0, 2, 1)))

    def test_point_23_equal_letters_and_holes_join_nothing(self):
        blocks = Blocks(2, 16)
        for one, other in ((HOLE, HOLE), (15, 15), (0, 0), (-1, -1)):
            self.assertIs(blocks.meet(one, other), True)
        self.same((blocks.groups(), blocks.count(), blocks.solved()), ([[1], [2]], 256, (0, 0)))

    def test_point_24_greatest_sizes(self):
        blocks = Blocks(24, 16)
        self.same((blocks.count(), blocks.solved()), (16 ** 24, (0,) * 24))
        for place in range(1, 24):
            self.assertIs(blocks.meet(-place, -place - 1), True)
        self.same((blocks.groups(), blocks.count()), ([list(range(1, 25))], 16))
        self.assertIs(blocks.meet(15, -24), True)
        self.same((blocks.count(), blocks.solved(), blocks.letter_of(1)), (1, (15,) * 24, 15))

    def test_a_returned_list_can_be_changed(self):
        blocks = Blocks(2, 2)
        found = blocks.groups()
        found[0].append(7)
        found.append([9])
        self.same(blocks.groups(), [[1], [2]])


class Wrong(Case):
    def test_sizes(self):
        for width in (0, 25) + NO_INTEGERS:
            self.refused(BadSize, Blocks, width, 2)
        for n in (1, 17) + NO_INTEGERS:
            self.refused(BadSize, Blocks, 1, n)

    def test_entries(self):
        blocks = Blocks(3, 4)
        for wrong in (4, 98, 100, -4, -99) + NO_INTEGERS:
            for right in (0, HOLE, -1):
                self.refused(BadMap, blocks.meet, wrong, right)
                self.refused(BadMap, blocks.meet, right, wrong)
        self.same(blocks.groups(), [[1], [2], [3]])

    def test_places(self):
        blocks = Blocks(3, 4)
        for wrong in (0, -1, 4, HOLE) + NO_INTEGERS:
            self.refused(BadMap, blocks.letter_of, wrong)

    def test_all_pairs_of_entries_of_a_small_window(self):
        entries = [-2, -1, 0, 1, HOLE]
        for one, other in itertools.product(entries, repeat=2):
            possible = one == other or (HOLE not in (one, other) and min(one, other) < 0)
            self.assertIs(Blocks(2, 2).meet(one, other), possible)
