"""Points 106 to 109."""

import random

from helpers import Case
from leastreader.errors import BadBits, BadDeed, BadLot, BadState, TooLarge
from leastreader.formats import Format
from leastreader.leasts import least_state
from leastreader.lots import classes_of_lot, least_map, lost_lot, moved_lot
from leastreader.patterns import filled_row, pattern_of
from losing import (
    NO_LOTS, rows_of_bits, slow_behind, slow_lost, slow_ordered, small_formats, some_lot, standings_600, windows_of)
from pairs import classes_of, small_pairs
from slow import COPIES, STOPS, remade, slow_blocks, slow_deeds, slow_standings, some_deeds, some_formats, unknown
from test_controls import crowd
from test_states import NO_FUTURES
from test_streams import NO_BITS, NO_STANDINGS


def filled(held, window):
    """A least map with the letters of the window in the place of its places."""
    rows = held[1] if held[0] == "at" else tuple(
        (rest, ("told", filled_row(answer[1], window)) if answer[0] == "told" else answer, mark)
        for rest, answer, mark in held[1])
    return (held[0], rows, filled_row(held[2], window))


class Lots(Case):
    def test_point_106_the_lost_lot(self):
        for fmt in list(small_formats(106, 60)) + list(some_formats(1061, 30, most=12)):
            self.same(lost_lot(fmt), slow_lost(fmt))
        self.same(lost_lot(Format(2, 2, tables=[STOPS])), [((0, ()), ""), ((0, ()), "0"), ((0, ()), "1"), ((-1, ()), "")])

    def test_600_standings_and_601(self):
        fmt = standings_600()
        self.same((len(lost_lot(fmt)), lost_lot(fmt)), (600, slow_lost(fmt)))
        self.same(self.refused(TooLarge, lost_lot, standings_600(ended=True)).limit, 600)
        self.same(len(slow_lost(standings_600(ended=True))), 601)
        self.same(len(moved_lot(standings_600(ended=True), slow_lost(standings_600(ended=True)), "")), 601)

    def test_point_106_moved_lots(self):
        dice, fewer = random.Random(1062), 0
        for fmt in list(small_formats(1062, 40)) + list(some_formats(1063, 30, most=10)):
            lot = some_lot(dice, fmt)
            for _ in range(4):
                bits = "".join(dice.choice("01") for _ in range(dice.randint(0, 8)))
                expected = slow_ordered(fmt, [slow_behind(fmt, standing, bits) for standing in lot])
                dice.shuffle(lot)
                for given in (lot, tuple(lot), lot + lot[:2], [list(standing) for standing in lot]):
                    self.same(moved_lot(fmt, given, bits), expected)
                fewer += len(expected) < len(lot)
                cut = dice.randint(0, len(bits))
                self.same(moved_lot(fmt, moved_lot(fmt, lot, bits[:cut]), bits[cut:]), expected)
        self.assertGreater(fewer, 20)

    def test_point_106_refused_bits_move_nothing(self):
        fmt = Format(2, 2, tables=[STOPS])
        self.same(moved_lot(fmt, [((-1, ()), "")], "0110"), [((-1, ()), "")])
        self.same(moved_lot(fmt, [((0, ()), "1"), ((0, ()), ""), ((-1, ()), "")], "1"), [((0, ()), "1"), ((-1, ()), "")])
        gaps = Format(2, 1, tables=[[(("letter", 0, 0), 2), (("letter", 1, 0), 2)]])
        self.same(moved_lot(gaps, lost_lot(gaps), "1"), [((0, ()), "")])

    def test_wrong_lots_and_bits(self):
        fmt = Format(2, 3, tables=[COPIES])
        lot = [((0, ()), "")]
        classes = classes_of(fmt)
        for wrong in NO_LOTS:
            self.refused(BadLot, moved_lot, fmt, wrong, "0")
            self.refused(BadLot, moved_lot, fmt, wrong, None)
            self.refused(BadLot, classes_of_lot, classes, wrong)
        for wrong in NO_BITS:
            self.refused(BadBits, moved_lot, fmt, lot, wrong)
        fmt = crowd(last=[(("stop",), 3)])
        self.same(self.refused(TooLarge, lost_lot, fmt).limit, 150)
        self.same(self.refused(TooLarge, moved_lot, fmt, None, None).limit, 150)

    def test_lists_can_be_changed(self):
        fmt, lot = Format(2, 3, tables=[COPIES]), [[(0, ()), "1"], [(0, ()), ""]]
        self.same(moved_lot(fmt, lot, "1"), [((0, ()), ""), ((0, ()), "1")])
        classes_of_lot(classes_of(fmt), lot)[0].clear()
        self.same(lot, [[(0, ()), "1"], [(0, ()), ""]])
        lost_lot(fmt).clear()
        moved_lot(fmt, lost_lot(fmt), "").clear()
        self.same(len(lost_lot(fmt)), 3)


class Classed(Case):
    def test_point_109_classes(self):
        dice, seen = random.Random(109), set()
        for fmt in small_formats(109, 60):
            classes = classes_of(fmt)
            lot = some_lot(dice, fmt, 12)
            found = classes_of_lot(classes, lot)
            blocks = slow_blocks([fmt])
            keys = {}
            for standing in slow_ordered(fmt, lot):
                key = tuple(blocks[0, standing + (window,)] for window in windows_of(fmt))
                keys.setdefault(key, []).append(standing)
            self.same(found, list(keys.values()))
            self.same(classes_of_lot(classes, tuple(lot[::-1]) + tuple(lot)), found)
            for group in found:
                self.same(len({begun == "" for _, begun in group}), 1)
                for bit in "01":
                    self.same(len(classes_of_lot(classes, moved_lot(fmt, group, bit))), 1)
                    refused = {slow_deeds(fmt, standing + (unknown(fmt.width),), bit)[0][0][0] == "refused" for standing in group}
                    self.same(len(refused), 1)
            for bits in rows_of_bits(3):
                self.assertLessEqual(len(classes_of_lot(classes, moved_lot(fmt, lot, bits))), len(found))
            seen.add(len(found) < len(lot))
        self.same(sorted(seen), [False, True])

    def test_point_109_under_the_classes_of_two_formats(self):
        for one, other in small_pairs(1091, 40):
            self.same(classes_of_lot(classes_of(one, other), slow_standings(one)), classes_of_lot(classes_of(one), slow_standings(one)))

    def test_point_109_without_bits_begun_as_the_controls(self):
        for fmt in some_formats(1092, 60, most=12, tables=(2, 3)):
            classes = classes_of(fmt)
            lot = [standing for standing in slow_standings(fmt) if standing[1] == ""]
            marks = {}
            for standing in lot:
                marks.setdefault(classes.class_of(classes.one.number_of(standing[0])), []).append(standing)
            self.same(classes_of_lot(classes, lot), list(marks.values()))


class LeastMaps(Case):
    def test_point_107_filled_by_windows(self):
        dice, seen = random.Random(107), set()
        for one, other in small_pairs(107, 60):
            classes = classes_of(one, other)
            for second, fmt in ((False, one), (True, other)):
                for _ in range(5):
                    standing, deeds = dice.choice(slow_standings(fmt)), some_deeds(dice, dice.randint(0, 6))
                    held = least_map(classes, standing, deeds, second=second)
                    self.same(least_map(classes, list(standing), tuple(deeds), second=second), held)
                    for window in windows_of(fmt) + [(99,) * fmt.width]:
                        behind = slow_deeds(fmt, standing + (window,), deeds)[1]
                        self.same(filled(held, window), least_state(classes, behind, second=second))
                    seen.add((held[0], min([entry for entry in held[2]], default=0) < 0, 99 in held[2]))
        self.assertTrue({("at", True, False), ("at", False, True), ("in", True, True), ("in", False, False)} <= seen)

    def test_point_107_of_no_deeds_and_by_hand(self):
        classes = classes_of(Format(2, 3, tables=[COPIES], restarts=True))
        self.same(least_map(classes, ((0, ()), ""), ""), ("at", 0, (-2, -1)))
        self.same(least_map(classes, ((0, ()), ""), ["loss"]), ("at", 0, (-1, 99)))
        self.same(least_map(classes, ((0, ()), "1"), ["restart"]), ("at", 0, (-2, -1)))
        self.same(least_map(classes, ((0, ()), "1"), "11"), ("in", (("0", ("told", (-2,)), 0), ("1", ("told", (-1,)), 0)), (-1, -2)))

    def test_point_108_alike_for_every_window_exactly_with_equal_least_maps(self):
        dice, seen = random.Random(108), set()
        for one, other in small_pairs(108, 60):
            if one.width != other.width:
                continue
            classes = classes_of(one, other)
            for _ in range(12):
                a, b = dice.choice(slow_standings(one)), dice.choice(slow_standings(other))
                x, y = some_deeds(dice, dice.randint(0, 6)), some_deeds(dice, dice.randint(0, 6))
                maps = least_map(classes, a, x), least_map(classes, b, y, second=True)
                met = set()
                for window in [w for w in windows_of(one) if max(w) < min(one.n, other.n)]:
                    alike = least_state(classes, slow_deeds(one, a + (window,), x)[1]) == least_state(
                        classes, slow_deeds(other, b + (window,), y)[1], second=True)
                    self.assertEqual(alike, filled(maps[0], window) == filled(maps[1], window))
                    met.add(alike or max(window) > 1)
                self.assertEqual(maps[0] == maps[1], False not in met)
                seen.add((maps[0] == maps[1], True in met))
        self.same(seen, {(True, True), (False, True), (False, False)})

    def test_wrong_values_in_their_order(self):
        fmt = Format(2, 3, tables=[COPIES])
        for wrong in NO_STANDINGS:
            self.refused(BadState, least_map, classes_of(fmt), wrong, None)
            self.refused(BadState, least_map, classes_of(fmt, fmt), wrong, "0", second=True)
        self.refused(BadState, least_map, classes_of(fmt), ((0, ()), ""), "0", second=True)
        self.refused(BadState, least_map, classes_of(fmt), ((0, ()), ""), None, second=True)
        for wrong in NO_FUTURES:
            self.refused(BadDeed, least_map, classes_of(fmt), ((0, ()), ""), wrong)
        other = remade(fmt, tables=[STOPS])
        self.refused(BadState, least_map, classes_of(fmt, other), ((-1, ()), ""), "0")
        self.same(least_map(classes_of(fmt, other), [(-1, ()), ""], "0", second=True), ("at", 2, ()))

    def test_arguments_are_left_as_they_were(self):
        fmt, standing, deeds = Format(2, 3, tables=[COPIES]), [(0, ()), "1"], ["0", "1"]
        least_map(classes_of(fmt), standing, deeds)
        self.same((standing, deeds), ([(0, ()), "1"], ["0", "1"]))
        self.same(pattern_of(classes_of(fmt), standing)[0], "in")
