"""Points 130 to 135."""

import itertools
import random

from helpers import NO_INTEGERS, NO_SERIES, Case
from leastreader.controls import Controls
from leastreader.errors import BadBits, BadRow, BadSize, BadState, BadWindow, TooLarge
from leastreader.fewest import fewest_tokens
from leastreader.formats import Format
from leastreader.placemaps import PlaceMap
from leastreader.streams import deeds_map
from leastreader.texts import TextWays, shorter_copy
from losing import small_formats
from slow import (
    COPIES, END, GAPS, LETTERS, STOPS, remade, slow_controls, slow_deed, slow_deeds, slow_links, slow_output,
    slow_table, some_formats)
from test_controls import crowd
from test_streams import NO_BITS

ROWS = [(("letter", 0, 0), 1), (("letter", 1, 0), 2), (("copy", 2, 0, 3, 0), 2)]


def moved(window, text, index):
    return (tuple(window) + tuple(text[:index]))[-len(window):]


def slow_count(fmt, window, text, index, control):
    """The fewest bits from the control that output the text from the index on, or None: all ways, bit by bit."""
    layer, seen, many = {(index, control, "")}, set(), 0
    while layer:
        if any(at == len(text) and not begun for at, _, begun in layer):
            return many
        seen |= layer
        following = set()
        for at, now, begun in layer:
            for bit in "01":
                answer, behind = slow_deed(fmt, (now, begun, moved(window, text, at)), bit)
                row = tuple(slow_output([answer]))
                if answer != ("refused",) and row == tuple(text[at:at + len(row)]):
                    following.add((at + len(row),) + behind[:2])
        layer = following - seen
        many += 1
    return None


def formats(seed, count):
    yield Format(2, 3, tables=[ROWS])
    # The second table needs more bits, and there is a way back.
    yield Format(2, 2, tables=[
        [(("letter", 0, 0), 1), (("letter", 1, 0), 4), (("turn", 1), 2), (("copy", 2, 0, 2, 0), 3)],
        [(("letter", 1, 0), 1), (("letter", 0, 0), 5), (("turn", 0), 2), (("stop",), 3)]])
    yield from small_formats(seed, count)
    yield from some_formats(seed + 1, count // 2, most=8, n=(2, 3), width=(1, 5))


def some_text(dice, fmt, most=9):
    """A text, at times with much that is repeated."""
    some = [dice.randrange(fmt.n) for _ in range(dice.randint(1, 3))]
    return tuple(dice.choice((some[at % len(some)], dice.randrange(fmt.n))) for at in range(dice.randint(0, most)))


def some_row(dice, fmt):
    return tuple(dice.choice(list(range(fmt.n)) + [99]) for _ in range(fmt.width))


class Counts(Case):
    def test_point_130_the_fewest_bits(self):
        dice, seen = random.Random(130), set()
        for fmt in formats(130, 80):
            window, text = some_row(dice, fmt), some_text(dice, fmt)
            ways = TextWays(fmt, list(window), list(text))
            for number, control in enumerate(slow_controls(fmt)):
                for index in range(len(text) + 1):
                    self.same(ways.of(number, index), slow_count(fmt, window, text, index, control))
                self.same(ways.of(number), ways.of(number, 0))
                self.check_way(fmt, window, text, ways, number, control)
                seen.add((control == END, len(text) == 0, ways.of(number) is None))
        self.assertTrue({(True, True, False), (True, False, True), (False, False, False), (False, True, False)} <= seen)

    def check_way(self, fmt, window, text, ways, number, control):
        way, count = ways.way(number), ways.of(number)
        if count is None:
            self.same((way, ways.bits(number)), (None, None))
            return
        self.assertIsInstance(way, list)
        self.same(ways.bits(number), "".join(way))
        self.same(len("".join(way)), count)
        index = 0
        for word in way:
            # The way ends as soon as the text is output.
            self.assertLess(index, len(text))
            best = []
            for other, (_, behind) in slow_links(fmt, control).items():
                row = slow_output(slow_deeds(fmt, (control, "", moved(window, text, index)), other)[0])
                after = slow_count(fmt, window, text, index + len(row), behind) if row == list(text[index:index + len(row)]) else None
                if after is not None and len(other) + after == slow_count(fmt, window, text, index, control):
                    best.append((len(other), other, len(row), behind))
            self.same(word, min(best)[1])
            _, _, told, control = min(best)
            index += told
        self.same(index, len(text))

    def test_point_131_the_least_of_these_numbers(self):
        dice = random.Random(131)
        for fmt in formats(131, 60):
            controls, window, text = Controls(fmt), some_row(dice, fmt), some_text(dice, fmt, 14)
            ways = TextWays(fmt, window, text)
            for number, control in enumerate(controls):
                self.same(ways.of(number, len(text)), 0)
                for index in range(len(text)):
                    counts = []
                    for word in controls.words(number):
                        answers = slow_deeds(fmt, (control, "", moved(window, text, index)), word)[0]
                        row = tuple(slow_output(answers))
                        after = ways.of(controls.behind(number, word), index + len(row)) if row == text[index:index + len(row)] else None
                        if after is not None:
                            counts.append(len(word) + after)
                    self.same(ways.of(number, index), min(counts) if control != END else None)

    def test_point_133_the_window_of_holes(self):
        dice, seen = random.Random(133), set()
        for fmt in list(formats(133, 50)) * 3:
            text = some_text(dice, fmt)
            holes = TextWays(fmt, (99,) * fmt.width, text)
            for number, control in enumerate(slow_controls(fmt)):
                if control == END:
                    continue
                self.same(list(deeds_map(fmt, (control, ""), holes.bits(number))), list(text))
                window = some_row(dice, fmt)
                other = TextWays(fmt, window, text).of(number)
                self.assertGreaterEqual(holes.of(number), other)
                seen.add(holes.of(number) > other)
        self.same(sorted(seen), [False, True])

    def test_point_134_letters_alone(self):
        dice, seen = random.Random(134), set()
        for fmt in formats(134, 80):
            text, window = some_text(dice, fmt, 12), some_row(dice, fmt)
            ways = TextWays(fmt, window, text)
            for number, control in enumerate(slow_controls(fmt)):
                if control == END:
                    continue
                table = fmt.table(control[0])
                total = sum(len(table.first_word(("letter", letter))) for letter in text)
                self.assertLessEqual(ways.of(number), total)
                found = shorter_copy(fmt, number)
                turns = any(token[0] == "turn" for token in slow_table(fmt, control[0]).values())
                if found is None and not turns:
                    self.same(ways.of(number), total)
                if found is not None:
                    word, letter = found
                    many = slow_links(fmt, control)[word][0][2]
                    row = (letter,) * many
                    full = TextWays(fmt, (letter,) * fmt.width, row)
                    self.same(slow_output(slow_deeds(fmt, (control, "", (letter,) * fmt.width), word)[0]), list(row))
                    self.assertLess(full.of(number), many * len(table.first_word(("letter", letter))))
                seen.add((found is None, turns))
        self.assertTrue({(True, False), (True, True), (False, False), (False, True)} <= seen)

    def test_point_135_words_of_one_length(self):
        dice = random.Random(135)
        for n, most, longest, width, bits in ((2, 2, 3, 4, 3), (4, 3, 4, 3, 4), (2, 1, 6, 2, 3), (2, 6, 5, 6, 5), (2, 0, 0, 3, 1)):
            signs = [("letter", letter, 0) for letter in range(n)]
            signs += [("copy", d, 0, l, 0) for d in range(1, most + 1) for l in range(1, longest + 1)]
            fmt = Format(n, width, recents=(1,), copied="push", tables=[[(sign, bits) for sign in signs]])
            for _ in range(20):
                text = some_text(dice, fmt, 20)
                ways = TextWays(fmt, (99,) * width, text)
                tokens = fewest_tokens(PlaceMap(text, width), most=most, longest=max(longest, 1))
                for number in range(len(slow_controls(fmt))):
                    self.same(ways.of(number), bits * len(tokens))


class Drops(Case):
    def test_point_132_by_how_much_each_word_lowers_the_number(self):
        dice, seen = random.Random(132), set()
        for fmt in formats(132, 60):
            controls = Controls(fmt)
            for _ in range(6):
                window, number = some_row(dice, fmt), dice.randrange(len(controls))
                way, now = [], number
                for _ in range(dice.randint(0, 6)):
                    words = controls.words(now)
                    if words:
                        way.append(dice.choice(words))
                        now = controls.behind(now, way[-1])
                control = controls.at_number(number)
                answers = slow_deeds(fmt, (control, "", window), "".join(way))[0]
                text = tuple(slow_output(answers))
                if 99 in text:
                    continue
                ways = TextWays(fmt, window, text)
                expected, index, now = [], 0, control
                for word in way:
                    plain, behind = slow_links(fmt, now)[word]
                    told = {"letter": 1, "copy": plain[-1]}.get(plain[0], 0)
                    expected.append(
                        slow_count(fmt, window, text, index, now) - slow_count(fmt, window, text, index + told, behind))
                    index, now = index + told, behind
                for given in (way, tuple(way)):
                    self.same(ways.drops(number, given), expected)
                self.assertTrue(all(drop <= len(word) for drop, word in zip(expected, way)))
                self.same(sum(expected), ways.of(number))
                self.assertLessEqual(ways.of(number), len("".join(way)))
                seen |= {(drop > 0) - (drop < 0) for drop in expected}
                if text:
                    self.same(TextWays(fmt, window, text[:-1]).drops(number, way), None)
                    self.same(TextWays(fmt, window, text + (0,)).drops(number, way), None)
                    other = text[:-1] + ((text[-1] + 1) % fmt.n,)
                    self.same(TextWays(fmt, window, other).drops(number, way), None)
        self.assertTrue({0, 1} <= seen)

    def test_turns_and_a_stop_behind_the_text(self):
        fmt = list(formats(0, 0))[1]
        ways = TextWays(fmt, (99, 99), (1, 1))
        words = {token: word for word, token in slow_table(fmt, 1).items()}
        turn = {token: word for word, token in slow_table(fmt, 0).items()}["turn", 1]
        letter, back, stop = words["letter", 1], words["turn", 0], words[("stop",)]
        self.same(ways.drops(0, [turn, letter, letter]), [2, 1, 1])
        self.same(ways.drops(0, [turn, letter, letter, back, turn, stop]), [2, 1, 1, 0, 0, 0])
        self.same(ways.drops(0, [turn, letter, stop]), None)
        self.same(ways.drops(0, [turn, letter, letter, stop, letter]), None)
        self.same(ways.drops(0, [turn, back, turn, letter, letter]), [2, -2, 2, 1, 1])
        self.same(ways.drops(0, []), None)
        empty = TextWays(fmt, (99, 99), ())
        self.same((empty.drops(0, []), empty.drops(0, [turn, stop]), empty.drops(0, [turn, letter])), ([], [0, 0], None))
        self.same((empty.way(0), empty.bits(0), empty.of(0)), ([], "", 0))

    def test_what_is_no_way(self):
        ways = TextWays(Format(2, 3, tables=[ROWS]), (0, 1, 0), (1, 0, 1, 0, 0))
        self.same(ways.drops(0, ["10", "11", "0"]), [1, 2, 1])
        for wrong in (["1", "0", "11", "0"], ["1011", "0"], ["", "10", "11", "0"], ["10", "11", "00"], ["10", "11"], []):
            self.same(ways.drops(0, wrong), None)
        for wrong in NO_SERIES + tuple(["10", part] for part in NO_BITS) + ("", "10"):
            self.refused(BadBits, ways.drops, 0, wrong)


class Shorter(Case):
    def test_point_134_words_that_are_too_short(self):
        seen = set()
        for fmt in formats(1341, 120):
            for number, control in enumerate(slow_controls(fmt)):
                if control == END:
                    self.refused(BadState, shorter_copy, fmt, number)
                    continue
                firsts = [len(fmt.table(control[0]).first_word(("letter", letter))) for letter in range(fmt.n)]
                words = [
                    (len(word), word) for word, (plain, _) in slow_links(fmt, control).items()
                    if plain[0] == "copy" and len(word) < plain[2] * max(firsts)]
                expected = (min(words)[1], firsts.index(max(firsts))) if words else None
                self.same(shorter_copy(fmt, number), expected)
                seen.add(expected and expected[1])
        self.assertTrue({None, 0, 1} <= seen)

    def test_wrong_numbers(self):
        fmt = Format(2, 2, tables=[STOPS])
        for wrong in NO_INTEGERS + (-1, 1, 2, 10 ** 30):
            self.refused(BadState, shorter_copy, fmt, wrong)
        self.same(self.refused(TooLarge, shorter_copy, crowd(last=[(("stop",), 3)]), None).limit, 150)


class Wrong(Case):
    def test_making(self):
        fmt = Format(2, 3, tables=[COPIES])
        for wrong in NO_SERIES + ((0, 1), (0, 1, 0, 1), (0, 1, 2), (0, 1, True), [0, 1, -1]):
            self.refused(BadWindow, TextWays, fmt, wrong, None)
        for wrong in NO_SERIES + ((2,), (0, 99), (99,), [-1], [True], [None], "01", [[0]]):
            self.refused(BadRow, TextWays, fmt, (0, 99, 1), wrong)
        self.same(self.refused(TooLarge, TextWays, crowd(last=[(("stop",), 3)]), None, None).limit, 150)

    def test_numbers_then_indexes(self):
        ways = TextWays(Format(2, 2, tables=[STOPS]), (0, 1), (1, 1, 0))
        for wrong in NO_INTEGERS + (-1, 2, 10 ** 30):
            self.refused(BadState, ways.of, wrong, None)
            self.refused(BadState, ways.way, wrong)
            self.refused(BadState, ways.bits, wrong)
            self.refused(BadState, ways.drops, wrong, None)
        for wrong in NO_INTEGERS + (-1, 4, 10 ** 30):
            self.refused(BadSize, ways.of, 0, wrong)
            self.refused(BadSize, ways.of, 1, wrong)
        self.same([ways.of(1, index) for index in range(4)], [None, None, None, 0])
        self.same((ways.way(1), ways.bits(1), ways.drops(1, []), ways.drops(1, ["00"])), (None, None, None, None))

    def test_lists_can_be_changed(self):
        fmt, window, text, way = Format(2, 3, tables=[GAPS]), [0, 1, 0], [1, 0, 1, 0], ["100", "00"]
        ways = TextWays(fmt, window, text)
        expected = ways.way(0)
        window[0], text[0] = 1, 0
        text.append(1)
        ways.way(0).clear()
        ways.drops(0, way)
        self.same((ways.way(0), ways.of(0, 4), way), (expected, 0, ["100", "00"]))
        self.same(len(remade(fmt, tables=[LETTERS])), 1)
        self.same(len(list(itertools.islice(formats(0, 0), 3))), 3)
