"""Points 113 to 117."""

import random

from helpers import Case
from leastreader.errors import BadBits, BadLot, TooLarge
from leastreader.formats import Format
from leastreader.joins import joining
from leastreader.leasts import least_state
from leastreader.lots import lost_lot, moved_lot
from leastreader.sure import first_sure, is_sure, sure_answers, sure_row, unsure
from losing import NO_LOTS, chains, rows_of_bits, slow_lost, small_formats, some_lot, standings_600, windows_of
from pairs import classes_of
from slow import COPIES, GAPS, LETTERS, STOPS, remade, slow_controls, slow_deeds, slow_reach, slow_rests, some_formats
from test_controls import crowd
from test_streams import NO_BITS

START = ((0, ()), "")
CALLS = (is_sure, unsure, first_sure, sure_answers)


def small(seed, count):
    return [fmt for fmt in small_formats(seed, count) if len(slow_lost(fmt)) <= 12 and fmt.n ** fmt.width <= 16]


def slow_sure(fmt, classes, lot, bits):
    """For each number of first bits whether they are sure, and for each bit whether its answer is."""
    states = [standing + (window,) for standing in lot for window in windows_of(fmt)]
    sure, answers = [len({least_state(classes, state) for state in states}) == 1], []
    for bit in bits:
        done = [slow_deeds(fmt, state, bit) for state in states]
        states = list({behind for _, behind in done})
        answers.append(len({str(answer) for answer, _ in done}) == 1)
        sure.append(len({least_state(classes, state) for state in states}) == 1)
    return sure, answers


def some_lots(dice, fmt):
    lot = slow_lost(fmt)
    return [some_lot(dice, fmt), dice.sample(lot, 1), lot[::-1]]


class Sure(Case):
    def test_point_113_sure_bits(self):
        dice, firsts, lengths = random.Random(113), set(), set()
        for fmt in small(113, 70):
            classes = classes_of(fmt)
            for lot in some_lots(dice, fmt):
                for _ in range(3):
                    bits = "".join(dice.choice("01") for _ in range(dice.randint(0, 12)))
                    sure, answers = slow_sure(fmt, classes, lot, bits)
                    self.same(is_sure(fmt, lot, bits), sure[-1])
                    first = sure.index(True) if True in sure else None
                    self.same(first_sure(fmt, tuple(lot + lot[:1]), bits), first)
                    self.same(sure_answers(fmt, [list(standing) for standing in lot], bits), answers)
                    # Point 114: sure bits stay sure, and all answers behind them are.
                    if first is not None:
                        self.assertTrue(all(sure[first:]) and all(answers[first:]))
                    self.check_unsure(fmt, classes, lot, bits, sure[-1])
                    firsts.add((len(lot) == 1, first is None, first == 0))
                    lengths.add((sure[-1], True in answers[:first]))
        self.assertGreaterEqual(len(firsts), 5)
        self.same(len(lengths), 4)

    def check_unsure(self, fmt, classes, lot, bits, sure):
        found = unsure(fmt, lot, bits)
        self.assertEqual(found is None, sure)
        if found is not None:
            self.assertIsInstance(found, tuple)
            one, window, other, last = found
            behind = []
            for standing, row in ((one, window), (other, last)):
                self.assertIn(standing, lot)
                self.assertIsInstance(row, tuple)
                self.assertTrue(len(row) == fmt.width and set(row) <= {0, 1})
                behind.append(least_state(classes, slow_deeds(fmt, standing + (row,), bits)[1]))
            self.assertNotEqual(behind[0], behind[1])

    def test_point_113_equal_standings_and_unlike_ones(self):
        fmt = Format(2, 3, tables=[COPIES])
        one, zeros, other, last = unsure(fmt, [START], "0")
        self.same((one, other), (START, START))
        self.assertNotEqual(zeros, last)
        fmt = Format(2, 2, tables=[[(("letter", 0, 0), 1), (("letter", 1, 0), 2), (("letter", 1, 0), 2)]])
        one, _, other, _ = unsure(fmt, lost_lot(fmt), "")
        self.assertNotEqual(one, other)
        self.same(unsure(fmt, lost_lot(fmt)[1:], ""), None)

    def test_larger_formats(self):
        dice = random.Random(1131)
        for fmt in some_formats(1131, 40, most=20, n=(2, 16), width=(1, 6)):
            lot = some_lot(dice, fmt, 8)
            bits = "".join(dice.choice("01") for _ in range(60))
            first = first_sure(fmt, lot, bits)
            sure = [is_sure(fmt, lot, bits[:many]) for many in range(61)]
            self.same(sure, [first is not None and many >= first for many in range(61)])
            self.same([unsure(fmt, lot, bits[:many]) is None for many in range(61)], sure)
            if first is not None:
                self.assertTrue(all(sure_answers(fmt, lot, bits)[first:]))

    def test_point_114_every_lot_among_the_standings(self):
        dice, found = random.Random(114), 0
        for fmt in small(114, 60):
            lot = some_lot(dice, fmt)
            for bits in rows_of_bits(5):
                if is_sure(fmt, lot, bits):
                    self.assertTrue(all(is_sure(fmt, [standing], bits) for standing in lot))
                    self.assertTrue(is_sure(fmt, lot[:2], bits + "0") and is_sure(fmt, lot, bits + "1"))
                    found += len(lot) > 1
        self.assertGreater(found, 50)

    def test_point_116_one_standing_without_bits_begun(self):
        for fmt in small(116, 80):
            for control in slow_controls(fmt):
                depth = slow_reach(fmt, control)[0]
                if control == (-1, ()):
                    for bits in ("", "0", "0110"):
                        self.same(is_sure(fmt, [(control, "")], bits), depth == 0)
                        self.same(first_sure(fmt, [(control, "")], bits), 0 if depth == 0 else None)
                else:
                    words = [fmt.table(control[0]).first_word(("letter", k % fmt.n)) for k in range(depth)]
                    self.assertTrue(is_sure(fmt, [(control, "")], "".join(words)))

    def test_bits_of_no_length(self):
        fmt = Format(2, 1, tables=[LETTERS])
        self.same((is_sure(fmt, [START], ""), first_sure(fmt, [START], ""), unsure(fmt, [START], "")), (True, 0, None))
        self.same((sure_answers(fmt, [START], ""), sure_row(fmt)), ([], ""))


class Rows(Case):
    def test_point_115_the_row(self):
        kinds = set()
        for fmt in small_formats(115, 150):
            if len(slow_lost(fmt)) > 40:
                continue
            try:
                joined = joining(fmt, lost_lot(fmt))
            except TooLarge:
                self.refused(TooLarge, sure_row, fmt)
                continue
            ended = (-1, ()) in slow_controls(fmt)
            found = sure_row(fmt)
            if joined is None or (ended and slow_reach(fmt, (-1, ()))[0] > 0):
                self.same(found, None)
                kinds.add((joined is None, ended))
                continue
            self.same(found, self.slow_row(fmt, joined))
            self.assertTrue(is_sure(fmt, lost_lot(fmt), found))
            kinds.add((ended, "row", found.startswith(joined), moved_lot(fmt, lost_lot(fmt), joined)[0][1] != ""))
        self.assertTrue({(True, False), (True, True), (False, True)} <= kinds)
        self.assertTrue({(False, "row", True, False), (True, "row", True, False), (False, "row", True, True)} <= kinds)

    def slow_row(self, fmt, joined):
        control, begun = moved_lot(fmt, lost_lot(fmt), joined)[0]
        rest = min(slow_rests(fmt, control, begun), key=lambda text: (len(text), text)) if begun else ""
        control = moved_lot(fmt, [(control, begun)], rest)[0][0]
        depth = slow_reach(fmt, control)[0]
        return joined + rest + (fmt.table(control[0]).first_word(("letter", 0)) * depth if depth else "")

    def test_point_115_no_bits_where_there_is_no_row(self):
        found = 0
        for fmt in small(1151, 60):
            if sure_row(fmt) is None:
                self.assertFalse(any(is_sure(fmt, lost_lot(fmt), bits) for bits in rows_of_bits(7)))
                found += 1
        self.assertGreater(found, 4)

    def test_ended_with_a_reach(self):
        fmt = Format(2, 2, tables=[STOPS])
        self.same(sure_row(fmt), "111")
        restarts = remade(fmt, restarts=True)
        self.same((joining(restarts, lost_lot(restarts)), sure_row(restarts)), ("111", None))
        plain = Format(2, 2, tables=[[(("letter", 0, 1), 2), (("stop",), 1)]], restarts=True)
        self.same((joining(plain, lost_lot(plain)), sure_row(plain)), ("000", "000"))


class Answers(Case):
    def test_point_117_an_answer_may_be_sure_before_the_bits(self):
        fmt = Format(2, 1, tables=[[(("letter", 0, 0), 1), (("letter", 1, 0), 2), (("copy", 1, 0, 1, 0), 2)]])
        self.same(sure_answers(fmt, lost_lot(fmt), "0011"), [False, True, True, True])
        self.same(sure_answers(fmt, [START], "1"), [True])
        self.same(is_sure(fmt, [START], "1"), False)
        self.same(sure_answers(fmt, [START], "11"), [True, False])
        self.same(sure_answers(fmt, [START], "110"), [True, False, True])

    def test_refused_answers(self):
        fmt = Format(2, 2, tables=[STOPS], restarts=True)
        self.same(sure_answers(fmt, [((-1, ()), "")], "01"), [True, True])
        self.same(sure_answers(fmt, [((-1, ()), ""), START], "01"), [False, False])


class Wrong(Case):
    def test_lots_then_bits(self):
        fmt = Format(2, 3, tables=[COPIES])
        for call in CALLS:
            for wrong in NO_LOTS:
                self.refused(BadLot, call, fmt, wrong, "0")
                self.refused(BadLot, call, fmt, wrong, None)
            for wrong in NO_BITS:
                self.refused(BadBits, call, fmt, [START], wrong)
            self.same(self.refused(TooLarge, call, crowd(last=[(("stop",), 3)]), None, None).limit, 150)

    def test_limits_of_the_row(self):
        self.same(self.refused(TooLarge, sure_row, crowd(last=[(("stop",), 3)])).limit, 150)
        self.same(self.refused(TooLarge, sure_row, standings_600(ended=True)).limit, 600)
        self.same(self.refused(TooLarge, sure_row, standings_600()).limit, 14)
        self.same(self.refused(TooLarge, sure_row, chains(last=5)).limit, 14)
        self.assertEqual(sure_row(chains(last=4)) is None, joining(chains(last=4), lost_lot(chains(last=4))) is None)

    def test_lists_can_be_changed(self):
        fmt, lot = Format(2, 3, tables=[GAPS]), [[(0, ()), ""], [(0, ()), ""]]
        found = [call(fmt, lot, "0110") for call in CALLS]
        found[3].clear()
        self.same(lot, [[(0, ()), ""], [(0, ()), ""]])
        self.same(len(sure_answers(fmt, lot, "0110")), 4)
