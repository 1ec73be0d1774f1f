"""Points 127 to 129."""

import itertools
import random

from helpers import NO_INTEGERS, NO_SERIES, Case
from leastreader.errors import BadBits, BadSize, BadState, TooLarge
from leastreader.forgets import Forgets
from leastreader.formats import Format
from leastreader.joins import joining
from leastreader.lots import lost_lot, moved_lot
from leastreader.sure import is_sure
from losing import rows_of_bits, slow_lost, small_formats
from slow import (
    COPIES, END, LETTERS, STOPS, remade, slow_controls, slow_deeds, slow_links, slow_reach, slow_rests, some_formats)
from test_controls import crowd
from test_lots import classes_of, classes_of_lot

ROWS = [(("letter", 0, 0), 1), (("letter", 1, 0), 2), (("copy", 1, 0, 2, 0), 2)]


def known_window(width, known):
    """A window in which a known place holds the letter 0, and another one -1."""
    return tuple(0 if place in known else -1 for place in range(width, 0, -1))


def known_in(window):
    return [place for place in range(1, len(window) + 1) if window[-place] >= 0]


def slow_known_behind(fmt, control, word, known):
    return known_in(slow_deeds(fmt, (control, "", known_window(fmt.width, known)), word)[1][2])


def slow_forgets(fmt, control, known):
    """The fewest bits that forget the window: all ways, ordered by their bits."""
    layers, seen, many = {0: {(control, tuple(sorted(set(known))))}}, set(), 0
    while True:
        for now, places in layers.pop(many, set()):
            if set(range(1, slow_reach(fmt, now)[0] + 1)) <= set(places):
                return many
            if (now, places) not in seen:
                seen.add((now, places))
                for word, (_, behind) in slow_links(fmt, now).items():
                    if behind != END:
                        following = tuple(slow_known_behind(fmt, now, word, places))
                        layers.setdefault(many + len(word), set()).add((behind, following))
        many += 1


def formats(seed, count):
    yield Format(2, 3, tables=[ROWS])
    # Letters are long; copies carry what is known on.
    yield Format(2, 4, tables=[[(("letter", 0, 1), 6), (("copy", 1, 0, 1, 0), 2), (("copy", 2, 0, 2, 0), 2), (("copy", 4, 0, 1, 0), 2)]])
    yield Format(2, 3, tables=[[(("letter", 0, 1), 3), (("turn", 1), 1), (("copy", 3, 0, 1, 0), 3)], LETTERS])
    yield from small_formats(seed, count)
    yield from some_formats(seed + 1, count // 2, most=8, n=(2, 3), width=(1, 5))


def open_numbers(fmt):
    return [(number, control) for number, control in enumerate(slow_controls(fmt)) if control != END]


class Forgetting(Case):
    def test_point_127_the_fewest_bits(self):
        dice, seen = random.Random(127), set()
        for fmt in formats(127, 80):
            forgets = Forgets(fmt)
            for number, control in open_numbers(fmt):
                places = dice.sample(range(1, fmt.width + 1), dice.randint(0, fmt.width))
                for known in ([], places, list(range(1, fmt.width + 1))):
                    expected = slow_forgets(fmt, control, known)
                    for given in (known, tuple(known[::-1]), known * 2):
                        self.same(forgets.of(number, given), expected)
                    self.check_way(fmt, control, known, forgets.way(number, known), expected)
                    seen.add((len(known) > 0, min(expected, 4)))
                self.same(forgets.of(number), forgets.of(number, []))
                self.same(forgets.way(number), forgets.way(number, ()))
        self.assertTrue({(False, 0), (False, 1), (False, 2), (False, 3), (False, 4), (True, 0), (True, 2), (True, 4)} <= seen)

    def check_way(self, fmt, control, known, way, count):
        self.assertIsInstance(way, list)
        self.same(len("".join(way)), count)
        now, places = control, known
        for word in way:
            places = slow_known_behind(fmt, now, word, places)
            now = slow_links(fmt, now)[word][1]
        self.assertNotEqual(now, END)
        self.assertTrue(set(range(1, slow_reach(fmt, now)[0] + 1)) <= set(places))

    def test_point_127_known_behind_a_word(self):
        kinds = set()
        for fmt in formats(1271, 40):
            forgets = Forgets(fmt)
            for number, control in open_numbers(fmt):
                for word, (plain, _) in slow_links(fmt, control).items():
                    for known in itertools.product((False, True), repeat=fmt.width):
                        places = [at + 1 for at in range(fmt.width) if known[at]]
                        expected = slow_known_behind(fmt, control, word, places)
                        self.same(forgets.known_behind(number, word, places[::-1]), expected)
                    self.same(forgets.known_behind(number, word), slow_known_behind(fmt, control, word, ()))
                    kinds.add(plain[0])
        self.same(sorted(kinds), ["copy", "letter", "stop", "turn"])

    def test_point_128_facts(self):
        dice, equal = random.Random(128), 0
        for fmt in formats(128, 40):
            forgets = Forgets(fmt)
            for number, control in open_numbers(fmt):
                depth = slow_reach(fmt, control)[0]
                letters = [len(word) for word, (plain, _) in slow_links(fmt, control).items() if plain[0] == "letter"]
                self.assertLessEqual(forgets.of(number), depth * min(letters))
                for _ in range(3):
                    places = dice.sample(range(1, fmt.width + 1), dice.randint(0, fmt.width))
                    found = forgets.of(number, places)
                    self.assertEqual(found == 0, set(range(1, depth + 1)) <= set(places))
                    counts = []
                    for word, (_, behind) in slow_links(fmt, control).items():
                        if behind != END:
                            following = list(slow_controls(fmt)).index(behind)
                            counts.append(len(word) + forgets.of(following, forgets.known_behind(number, word, places)))
                    self.assertLessEqual(found, min(counts))
                    if found:
                        self.same(found, min(counts))
                    fewer = places[:dice.randint(0, len(places))]
                    self.assertLessEqual(found, forgets.of(number, fewer))
                    equal += found > 0
        self.assertGreater(equal, 60)

    def test_point_129_sure_ways(self):
        seen = set()
        for fmt in formats(129, 40):
            forgets = Forgets(fmt)
            for number, control in open_numbers(fmt):
                lot = [(control, "")]
                self.assertTrue(is_sure(fmt, lot, "".join(forgets.way(number))))
                for bits in rows_of_bits(min(5, forgets.of(number) + 1)):
                    behind, begun, window = slow_deeds(fmt, (control, "", known_window(fmt.width, ())), bits)[1]
                    whole = begun == "" and behind != END and ("refused",) not in slow_deeds(
                        fmt, (control, "", known_window(fmt.width, ())), bits)[0]
                    if whole:
                        depth = slow_reach(fmt, behind)[0]
                        sure = set(range(1, depth + 1)) <= set(known_in(window))
                        self.assertEqual(is_sure(fmt, lot, bits), sure)
                        seen.add((sure, depth > 0))
                        self.assertFalse(sure and len(bits) < forgets.of(number))
        self.assertTrue({(True, True), (False, True), (True, False)} <= seen)

    def test_point_129_the_lost_lot(self):
        found = 0
        for fmt in formats(1291, 60):
            if END in slow_controls(fmt) or len(classes_of_lot(classes_of(fmt), slow_lost(fmt))) > 14:
                continue
            bits = joining(fmt, lost_lot(fmt))
            if bits is None:
                continue
            control, begun = moved_lot(fmt, lost_lot(fmt), bits)[0]
            bits += slow_rests(fmt, control, begun)[-1] if begun else ""
            for control, begun in moved_lot(fmt, lost_lot(fmt), bits):
                self.same(begun, "")
                way = Forgets(fmt).way(list(slow_controls(fmt)).index(control))
                self.assertTrue(is_sure(fmt, lost_lot(fmt), bits + "".join(way)))
            found += 1
        self.assertGreater(found, 10)

    def test_the_empty_way(self):
        forgets = Forgets(Format(2, 3, tables=[ROWS]))
        self.same((forgets.of(0, (1,)), forgets.way(0, (1,)), forgets.of(0, (2, 3))), (0, [], 1))
        plain = Forgets(Format(2, 10, tables=[LETTERS]))
        self.same((plain.of(0), plain.way(0)), (0, []))

    def test_wrong_values_in_their_order(self):
        fmt = Format(2, 3, tables=[STOPS])
        forgets = Forgets(fmt)
        self.same(list(slow_controls(fmt))[1], END)
        for wrong in NO_INTEGERS + (-1, 1, 2, 10 ** 30):
            self.refused(BadState, forgets.of, wrong, None)
            self.refused(BadState, forgets.way, wrong, None)
            self.refused(BadState, forgets.known_behind, wrong, None, None)
        for wrong in NO_SERIES + tuple([1, part] for part in NO_INTEGERS + (-1, 0, 4, 10 ** 30)):
            self.refused(BadSize, forgets.of, 0, wrong)
            self.refused(BadSize, forgets.way, 0, wrong)
            self.refused(BadSize, forgets.known_behind, 0, None, wrong)
        for wrong in NO_SERIES[1:] + NO_INTEGERS + ("", "0", "1", "000", "0 0", b"00", ["00"]):
            if wrong != "01":
                self.refused(BadBits, forgets.known_behind, 0, wrong, (1,))
        self.same(forgets.known_behind(0, "11", (3, 1, 1)), [1, 3])

    def test_widths_of_10_and_11(self):
        for width in range(1, 11):
            fmt = Format(2, width, tables=[[(("letter", 0, 1), 1), (("copy", width, 0, 1, 0), 1)]])
            self.same(Forgets(fmt).of(0), 2 * width)
        for width in (11, 24):
            self.same(self.refused(TooLarge, Forgets, Format(2, width, tables=[LETTERS])).limit, 10)
        larger = crowd(last=[(("stop",), 3)])
        self.same(self.refused(TooLarge, Forgets, larger).limit, 150)
        self.same(self.refused(TooLarge, Forgets, remade(larger, width=11)).limit, 10)

    def test_lists_can_be_changed(self):
        forgets, known = Forgets(Format(2, 3, tables=[COPIES])), [3, 1]
        forgets.way(0, known).clear()
        forgets.known_behind(0, "10", known).clear()
        self.same(known, [3, 1])
        self.same((len(forgets.way(0, known)), forgets.known_behind(0, "10", known)), (1, [1, 2]))
