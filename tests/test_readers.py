"""Points 61 to 64 and 69, as readers keep them."""

import random

from helpers import NO_INTEGERS, NO_SERIES, Case
from leastreader.controls import ENDED
from leastreader.errors import BadDeed, BadSize, BadState, BadWindow, TooLarge
from leastreader.formats import Format
from leastreader.readers import Reader
from slow import (
    COPIES, STOPS, remade, slow_deeds, slow_output, slow_standings, some_deeds, some_formats, some_state)
from test_controls import crowd
from test_states import NO_DEEDS, NO_FUTURES, wrong_states


def parts(reader):
    return reader.control, reader.begun, reader.window, reader.state, reader.ended, reader.told()


class Taking(Case):
    def test_points_62_and_63_whole_futures(self):
        dice, ended = random.Random(63), 0
        for fmt in some_formats(63, 120, most=20, n=(2, 4), width=(1, 6), many=(0, 4)):
            state = some_state(dice, fmt)
            deeds = some_deeds(dice, 40)
            answers, behind = slow_deeds(fmt, state, deeds)
            for given in (deeds, tuple(deeds)):
                reader = Reader.of_state(fmt, state)
                self.same(parts(reader), state + (state, state[0] == ENDED, ()))
                self.assertIs(reader.fmt, fmt)
                self.same(reader.feed(given), answers)
                self.same(parts(reader), behind + (behind, behind[0] == ENDED, tuple(slow_output(answers))))
            one = Reader.of_state(fmt, list(state))
            self.same([one.take(deed) for deed in deeds], answers)
            self.same(parts(one), parts(reader))
            ended += one.ended
        self.assertGreater(ended, 5)

    def test_point_63_futures_as_bits_and_empty_ones(self):
        fmt = Format(2, 3, tables=[COPIES])
        found = []
        for bits in ("0110", ["0", "1", "1", "0"], ("0", "1", "1", "0")):
            reader = Reader(fmt, window=[0, 1, 0])
            found.append((reader.feed(bits), parts(reader)))
        self.same(found[0], found[1])
        self.same(found[0], found[2])
        for empty in ("", [], ()):
            before = parts(reader)
            self.same(reader.feed(empty), [])
            self.same(parts(reader), before)

    def test_point_64_parts(self):
        dice = random.Random(64)
        for fmt in some_formats(641, 60, most=20):
            state, deeds = some_state(dice, fmt), some_deeds(dice, 40)
            whole, cut = Reader.of_state(fmt, state), Reader.of_state(fmt, state)
            answers = whole.feed(deeds)
            k, m = sorted((dice.randint(0, 40), dice.randint(0, 40)))
            self.same(cut.feed(deeds[:k]) + cut.feed(deeds[k:m]) + cut.feed(deeds[m:]), answers)
            self.same(parts(cut), parts(whole))
            behind = Reader.of_state(fmt, slow_deeds(fmt, state, deeds[:k])[1])
            self.same(behind.feed(deeds[k:]), answers[k:])
            self.same(behind.state, whole.state)

    def test_starts(self):
        for fmt in some_formats(611, 30, most=20):
            start = (0, fmt.recents)
            self.same(parts(Reader(fmt))[:4], (start, "", (99,) * fmt.width, (start, "", (99,) * fmt.width)))
            window = [0] * fmt.width
            reader = Reader(fmt, window=window)
            window[0] = 1
            self.same(reader.state, (start, "", (0,) * fmt.width))

    def test_class_values(self):
        self.same(
            (Reader.REFUSED, Reader.TAKEN, Reader.TOLD, Reader.TURNED, Reader.STOPPED, Reader.RESTARTED, Reader.LOST),
            ("refused", "taken", "told", "turned", "stopped", "restarted", "lost"))
        reader = Reader(Format(2, 3, tables=[STOPS], restarts=True))
        self.same(
            [answer[0] for answer in reader.feed(["0", "0", "1", "1", "1", "restart", "loss"])], [
            reader.TAKEN, reader.TOLD, reader.TAKEN, reader.STOPPED, reader.REFUSED, reader.RESTARTED, reader.LOST])

    def test_ended(self):
        reader = Reader(Format(2, 3, tables=[STOPS]))
        self.assertIs(reader.ended, False)
        reader.feed("11")
        self.assertIs(reader.ended, True)
        self.same((reader.control, reader.restart(), reader.take("0")), (ENDED, ("refused",), ("refused",)))
        reader = Reader(Format(2, 3, tables=[STOPS], restarts=True))
        reader.feed("11")
        self.same((reader.restart(), reader.ended), (("restarted",), False))


class Losses(Case):
    def test_restarts_and_losses(self):
        fmt = Format(2, 3, tables=[COPIES], restarts=True)
        reader = Reader(fmt, window=(0, 1, 0))
        reader.feed("010")
        # A loss within a word.
        self.same(reader.begun, "0")
        self.same((reader.lose(), reader.state, reader.told()), (("lost",), ((0, ()), "", (0, 1, 99)), (1, 99)))
        reader.feed("1")
        self.same((reader.restart(), reader.state), (("restarted",), ((0, ()), "", (0, 1, 99))))
        self.same((reader.lose(2000), reader.window, len(reader.told())), (("lost",), (99, 99, 99), 2002))
        self.same(reader.lose(1), ("lost",))
        refused = Reader(remade(fmt, restarts=False), window=(0, 1, 0))
        refused.feed("0")
        self.same((refused.lose(), refused.lose(2000), refused.restart()), (("refused",),) * 3)
        self.same(parts(refused), ((0, ()), "0", (0, 1, 0), ((0, ()), "0", (0, 1, 0)), False, ()))

    def test_wrong_numbers_of_losses(self):
        for allowed in (True, False):
            reader = Reader(Format(2, 3, tables=[COPIES], restarts=allowed))
            for wrong in (0, -1, 2001, 10 ** 30) + NO_INTEGERS:
                self.refused(BadSize, reader.lose, wrong)
            self.same(reader.told(), ())


class Twins(Case):
    def test_twins_do_not_change_one_another(self):
        fmt = Format(2, 3, tables=[COPIES], restarts=True)
        reader = Reader(fmt, window=(0, 1, 0))
        reader.feed("010")
        twin = reader.twin()
        self.assertIs(type(twin), Reader)
        self.assertIs(twin.fmt, fmt)
        self.same(parts(twin), parts(reader))
        before = parts(reader)
        twin.feed("11")
        twin.lose(2)
        self.same(parts(reader), before)
        there = parts(twin)
        reader.feed("000")
        self.same(parts(twin), there)
        self.assertNotEqual(parts(reader), before)
        self.same(twin.twin().told(), twin.told())

    def test_lists_that_were_returned_or_given_can_be_changed(self):
        reader = Reader(Format(2, 3, tables=[COPIES]), window=(0, 1, 0))
        deeds = ["0", "1"]
        answers = reader.feed(deeds)
        self.same(deeds, ["0", "1"])
        deeds.append("0")
        answers.clear()
        self.same((reader.told(), reader.begun), ((1,), ""))


class Wrong(Case):
    def setUp(self):
        self.fmt = Format(2, 3, tables=[STOPS], restarts=True)

    def test_wrong_windows_and_states(self):
        for wrong in ((0, 1), (0, 1, 2), "010", 7, (0, 1, True), (0, 1, -1), [0, 1, 0, 1], ()):
            self.refused(BadWindow, Reader, self.fmt, window=wrong)
        for wrong in wrong_states(self.fmt):
            self.refused(BadState, Reader.of_state, self.fmt, wrong)

    def test_wrong_deeds_change_nothing(self):
        reader = Reader(self.fmt, window=(0, 1, 0))
        reader.feed("000")
        before = parts(reader)
        for wrong in NO_DEEDS + NO_SERIES:
            self.refused(BadDeed, reader.take, wrong)
        for wrong in NO_FUTURES + (["0", "1", "2"], ("0", "loss", "loss", "x"), "012"):
            self.refused(BadDeed, reader.feed, wrong)
        self.same(parts(reader), before)

    def test_too_large_ahead_of_all_other_errors(self):
        fmt = crowd(last=[(("stop",), 4)])
        self.same(self.refused(TooLarge, Reader, fmt).limit, 150)
        self.same(self.refused(TooLarge, Reader, fmt, window=7).limit, 150)
        self.same(self.refused(TooLarge, Reader.of_state, fmt, None).limit, 150)

    def test_standings_of_every_kind(self):
        for fmt in some_formats(612, 20, most=20):
            for standing in slow_standings(fmt):
                state = standing + ((1,) * fmt.width,)
                self.same(Reader.of_state(fmt, state).state, state)
