"""Points 118 and 119."""

import random

from helpers import NO_INTEGERS, NO_SERIES, Case
from leastreader.errors import BadBits, BadDeed, BadSize, BadState, TooLarge
from leastreader.formats import Format
from leastreader.leasts import least_state
from leastreader.turned import heals, healed, spoilt, turned_bit
from losing import small_formats, windows_of
from pairs import classes_of
from slow import COPIES, STOPS, remade, slow_deeds, slow_map, slow_output, slow_standings, some_deeds, some_formats, some_state
from test_controls import crowd
from test_states import NO_FUTURES, wrong_states
from test_streams import NO_BITS, NO_STANDINGS

START = ((0, ()), "")


def prefixes(deeds):
    return [deeds[:many] for many in range(len(deeds) + 1)]


class Turned(Case):
    def test_turned_bits(self):
        for bits in ("0", "1", "00", "0110", "1" * 50):
            for at in range(len(bits)):
                found = turned_bit(bits, at)
                self.same([k for k in range(len(bits)) if found[k] != bits[k]], [at])
                self.same((len(found), set(found) <= {"0", "1"}, turned_bit(found, at)), (len(bits), True, bits))

    def test_wrong_bits_and_indexes(self):
        for wrong in NO_BITS:
            self.refused(BadBits, turned_bit, wrong, 0)
        for bits in ("", "0", "0110"):
            for wrong in NO_INTEGERS + NO_SERIES[4:] + (-1, len(bits), 10 ** 30):
                self.refused(BadBits, turned_bit, bits, wrong)


class Healed(Case):
    def test_point_118_the_least_length(self):
        dice, seen = random.Random(118), set()
        for fmt in list(small_formats(118, 60)) + list(some_formats(1181, 30, most=12, width=(1, 3))):
            classes = classes_of(fmt)
            for _ in range(12):
                state = some_state(dice, fmt)
                bits = "".join(dice.choice("01") for _ in range(dice.randint(0, 12)))
                other = "".join(dice.choice("01") for _ in bits)
                if bits and dice.random() < 0.7:
                    other = turned_bit(bits, dice.randrange(len(bits)))
                first = max([at + 1 for at in range(len(bits)) if bits[at] != other[at]], default=0)
                alike = []
                for many in range(first, len(bits) + 1):
                    one, last = (slow_deeds(fmt, state, row[:many])[1] for row in (bits, other))
                    alike.append(least_state(classes, one) == least_state(classes, last))
                # Once healed they stay so.
                self.same(alike, sorted(alike))
                expected = first + alike.index(True) if True in alike else None
                self.same(healed(fmt, list(state), bits, other), expected)
                self.same(healed(fmt, state, other, bits), expected)
                self.same(healed(fmt, state, bits, bits), 0)
                if expected is not None:
                    rows = [slow_deeds(fmt, slow_deeds(fmt, state, row[:expected])[1], bits[expected:])[0] for row in (bits, other)]
                    self.same(rows[0], rows[1])
                seen.add((expected is None, expected == first, expected == len(bits)))
        self.assertTrue({(True, False, False), (False, True, False), (False, False, True), (False, False, False)} <= seen)

    def test_point_118_by_hand(self):
        fmt = Format(2, 1, tables=[[(("letter", 0, 0), 1), (("letter", 1, 0), 2), (("copy", 1, 0, 1, 0), 2)]])
        state = ((0, ()), "", (0,))
        self.same(healed(fmt, state, "100", "000"), 3)
        self.same(healed(fmt, state, "", ""), 0)
        self.same([healed(fmt, state, "0", "1"), healed(fmt, state, "00", "01")], [None, None])
        # Alike behind the first bits, but unlike bits follow.
        self.same([healed(fmt, state, "0000", "0101"), healed(fmt, state, "00000", "01100")], [None, 3])
        # The states behind the first bits are alike before the last unlike index.
        self.same(healed(fmt, state, "1111100", "1111111"), None)

    def test_errors_in_their_order(self):
        fmt = Format(2, 3, tables=[COPIES])
        state = START + ((0, 1, 0),)
        for wrong in wrong_states(fmt):
            self.refused(BadState, healed, fmt, wrong, None, "01")
        for wrong in NO_BITS:
            self.refused(BadBits, healed, fmt, state, wrong, "01")
            self.refused(BadBits, healed, fmt, state, "01", wrong)
            self.refused(BadBits, healed, fmt, state, wrong, wrong)
        for bits, other in (("", "0"), ("011", "01"), ("1", "")):
            self.refused(BadBits, healed, fmt, state, bits, other)
        self.same(self.refused(TooLarge, healed, crowd(last=[(("stop",), 3)]), None, None, None).limit, 150)


class Spoilt(Case):
    def test_point_119_the_outputs_that_differ(self):
        dice, seen = random.Random(119), set()
        for fmt in list(small_formats(119, 60)) + list(some_formats(1191, 30, most=12, width=(1, 4))):
            standings = slow_standings(fmt)
            for _ in range(8):
                standing, deeds = dice.choice(standings), some_deeds(dice, dice.randint(0, 14))
                window = tuple(dice.randrange(fmt.n) for _ in range(fmt.width))
                places = dice.sample(range(1, fmt.width + 1), dice.randint(0, fmt.width))
                other = tuple(
                    (letter + 1) % fmt.n if fmt.width - at in places else letter for at, letter in enumerate(window))
                rows = [slow_output(slow_deeds(fmt, standing + (row,), deeds)[0]) for row in (window, other)]
                expected = [at for at in range(len(rows[0])) if rows[0][at] != rows[1][at]]
                for given in (places, tuple(places), places * 2):
                    self.same(spoilt(fmt, list(standing), deeds, given), expected)
                self.same(expected, [at for at, entry in enumerate(slow_map(fmt, standing, deeds)) if -entry in places])
                seen.add((len(places), min(len(expected), 2)))
                seen.add(99 in rows[0] and len(expected) > 0)
        self.assertTrue({(0, 0), (1, 0), (1, 1), (1, 2), True} <= seen)

    def test_point_119_heals(self):
        dice, seen = random.Random(1192), set()
        for fmt in list(small_formats(1192, 60)) + list(some_formats(1193, 30, most=12, width=(1, 4))):
            classes, standings = classes_of(fmt), slow_standings(fmt)
            for _ in range(6):
                standing, deeds = dice.choice(standings), some_deeds(dice, dice.randint(0, 12))
                places = dice.sample(range(1, fmt.width + 1), dice.randint(0, fmt.width))
                window = tuple(dice.randrange(fmt.n) for _ in range(fmt.width))
                other = tuple(
                    (letter + 1) % fmt.n if fmt.width - at in places else letter for at, letter in enumerate(window))
                alike = [
                    len({least_state(classes, slow_deeds(fmt, standing + (row,), part)[1]) for row in (window, other)}) == 1
                    for part in prefixes(deeds)]
                expected = alike.index(True) if True in alike else None
                self.same(heals(fmt, standing, tuple(deeds), places), expected)
                self.same(heals(fmt, list(standing), deeds, tuple(places * 2)), expected)
                self.assertTrue(expected is None or all(alike[expected:]))
                seen.add((len(places) > 0, None if expected is None else min(expected, 3)))
        self.assertTrue({(False, 0), (True, None), (True, 0), (True, 1), (True, 2), (True, 3)} <= seen)

    def test_losses_restarts_and_refused_deeds(self):
        fmt = Format(2, 3, tables=[COPIES], restarts=True)
        self.same(spoilt(fmt, START, ["loss", "1", "1", "1", "0"], [1]), [1, 2])
        self.same(heals(fmt, START, ["loss", "restart", "1", "loss"], [1]), 4)
        self.same(heals(fmt, START, ["restart", "loss"], [2, 3]), 2)
        refusing = remade(fmt, restarts=False)
        self.same(spoilt(refusing, START, ["loss", "1", "0", "1", "1"], [1]), [0, 1])
        self.same(heals(refusing, START, ["loss", "restart", "0", "0"], [2]), 3)
        self.same(heals(refusing, START, "", [3]), 0)
        ended = Format(2, 2, tables=[STOPS])
        self.same(heals(ended, START, "1111", [1, 2]), 2)
        self.same((spoilt(ended, ((-1, ()), ""), "0101", [1]), heals(ended, ((-1, ()), ""), "0", [1])), ([], 0))

    def test_errors_in_their_order(self):
        fmt = Format(2, 3, tables=[COPIES])
        for call in (spoilt, heals):
            for wrong in NO_STANDINGS:
                self.refused(BadState, call, fmt, wrong, None, None)
            for wrong in NO_FUTURES:
                self.refused(BadDeed, call, fmt, START, wrong, None)
            for wrong in NO_SERIES + NO_INTEGERS + (0, 1, "1"):
                if not isinstance(wrong, (tuple, list)):
                    self.refused(BadSize, call, fmt, START, "01", wrong)
            for wrong in NO_INTEGERS + (0, -1, 4, 10 ** 30):
                self.refused(BadSize, call, fmt, START, "01", [1, wrong])
                self.refused(BadSize, call, fmt, START, "", (wrong,))
            self.same(self.refused(TooLarge, call, crowd(last=[(("stop",), 3)]), None, None, None).limit, 150)

    def test_arguments_are_left_as_they_were(self):
        fmt, deeds, places, standing = Format(2, 3, tables=[COPIES]), ["1", "1"], [3, 1, 3], [(0, ()), ""]
        spoilt(fmt, standing, deeds, places).append(7)
        heals(fmt, standing, deeds, places)
        self.same((deeds, places, standing), (["1", "1"], [3, 1, 3], [(0, ()), ""]))
        self.same(spoilt(fmt, standing, deeds, places), [])
        self.same(len(windows_of(fmt)), 8)
