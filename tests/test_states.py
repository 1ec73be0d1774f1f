"""Points 61, 62, 64 and 69."""

import random

from helpers import NO_INTEGERS, NO_SERIES, Case
from leastreader.controls import ENDED
from leastreader.errors import BadDeed, BadState, BadWindow, TooLarge
from leastreader.formats import Format
from leastreader.states import DEEDS, check_deed, check_future, check_state, done, shown_answer, start_state
from slow import (
    COPIES, GAPS, STOPS, remade, slow_controls, slow_deed, slow_deeds, slow_standings, some_deeds, some_formats,
    some_state)
from test_controls import crowd

NO_DEEDS = ("", "2", "01", "Restart", "lost", "restarted", b"0", ("0",), ["0"]) + NO_INTEGERS[:3] + (0, 1)
NO_FUTURES = tuple(value for value in NO_SERIES if value != "01") + (
    "2", "0 1", "restart", ["2"], [0, 1], ["0", None], ("01",), [["0"]], b"01", "012", ["0", "1", "Loss"])


def wrong_states(fmt):
    """Values that are no states of a format of 2 letters with the width 3, no recents and a stop."""
    start, window = (0, ()), (0, 1, 99)
    yield from NO_SERIES
    yield from NO_INTEGERS
    yield from [
        (), (start, ""), (start, "", window, 0), (start, "", window, "", 0), ([0, ()], "", window), ((0, []), "", window),
        ((1, ()), "", window), ((0, (1,)), "", window), ((False, ()), "", window), ((0,), "", window), (0, "", window),
        (None, "", window), ("", start, window), (start, "00", window), (start, "2", window), (start, None, window),
        (start, 0, window), (start, ["0"], window), (start, ("0",), window), (start, b"", window), (ENDED, "0", window),
        (ENDED, None, window), (start, "", (0, 1)), (start, "", (0, 1, 0, 1)), (start, "", (0, 1, 2)),
        (start, "", (0, 1, True)), (start, "", (0, 1, None)), (start, "", "010"), (start, "", None), (start, "", 7),
        (start, "", (0, 1, -1)), (start, "", [[0], 1, 1]), "abc", ((0, ()), "", (0, 1, 98))]


class Deeds(Case):
    def test_the_deeds(self):
        self.same(DEEDS, ("0", "1", "restart", "loss"))
        for deed in DEEDS:
            self.same(check_deed(deed), deed)
        for wrong in NO_DEEDS + NO_SERIES:
            if wrong != "01":
                self.refused(BadDeed, check_deed, wrong)
        self.refused(BadDeed, check_deed, "01")

    def test_point_63_futures(self):
        for deeds, expected in (
                ([], []), ((), []), ("", []), ("0110", ["0", "1", "1", "0"]), (["0", "restart"], ["0", "restart"]),
                (("loss", "1", "1"), ["loss", "1", "1"])):
            self.same(check_future(deeds), expected)
        for wrong in NO_FUTURES:
            self.refused(BadDeed, check_future, wrong)
        deeds = ["0", "loss"]
        check_future(deeds).append("1")
        self.same(deeds, ["0", "loss"])


class States(Case):
    def test_starts(self):
        fmt = Format(3, 4, recents=(4, 4), tables=[[(("letter", 0, 1), 1), (("letter", 2, 0), 1)]])
        for window in ((0, 1, 2, 99), [0, 1, 2, 99]):
            self.same(start_state(fmt, window), ((0, (4, 4)), "", (0, 1, 2, 99)))
        for wrong in NO_SERIES + ((0, 1, 2), (0, 1, 2, 3), (0, 1, 2, 2, 2), (0, 1, 2, True), (0, 1, 2, -1), None):
            self.refused(BadWindow, start_state, fmt, wrong)
        # The start needs no reached controls.
        self.same(start_state(crowd(last=[(("stop",), 4)]), [0] * 5), ((0, (1, 1)), "", (0,) * 5))

    def test_point_61_states(self):
        for fmt in some_formats(61, 40, most=20):
            dice = random.Random(61)
            for standing in slow_standings(fmt):
                state = some_state(dice, fmt, [standing])
                self.same(check_state(fmt, state), state)
                self.same(check_state(fmt, list(state)), state)
                given = [state[0], state[1], list(state[2])]
                self.same(check_state(fmt, given), state)
                self.same(given, [state[0], state[1], list(state[2])])

    def test_point_61_what_is_no_state(self):
        fmt = Format(2, 3, tables=[STOPS])
        self.same(check_state(fmt, [ENDED, "", [99, 0, 1]]), (ENDED, "", (99, 0, 1)))
        for wrong in wrong_states(fmt):
            self.refused(BadState, check_state, fmt, wrong)
            self.refused(BadState, done, fmt, wrong, "0")
            # The state is wrong, and the deed is, too.
            self.refused(BadState, done, fmt, wrong, "2")
        # Without a stop ENDED is not reached.
        self.refused(BadState, check_state, Format(2, 3, tables=[COPIES]), (ENDED, "", (0, 1, 0)))
        # 10 is begun in the other table alone, which no turn reaches.
        self.refused(BadState, check_state, Format(2, 3, tables=[COPIES, STOPS]), ((1, ()), "", (0, 1, 0)))

    def test_too_large_ahead_of_all_other_errors(self):
        fmt = crowd(last=[(("stop",), 4)])
        self.same(self.refused(TooLarge, check_state, fmt, None).limit, 150)
        self.same(self.refused(TooLarge, done, fmt, None, None).limit, 150)
        self.same(check_state(crowd(), ((5, (5, 5)), "01", (0,) * 5)), ((5, (5, 5)), "01", (0,) * 5))


class Done(Case):
    def test_point_62_all_deeds_from_all_standings(self):
        dice, seen = random.Random(62), set()
        for fmt in some_formats(62, 120, most=12, n=(2, 3), width=(1, 5), many=(0, 4)):
            for standing in slow_standings(fmt):
                state = some_state(dice, fmt, [standing])
                for deed in DEEDS:
                    expected = slow_deed(fmt, state, deed)
                    self.same(done(fmt, state, deed), expected)
                    self.same(done(fmt, [state[0], state[1], list(state[2])], deed), expected)
                    seen.add((expected[0][0], deed, standing[0] == ENDED, standing[1] != ""))
        for word, deed in (
                ("refused", "0"), ("refused", "1"), ("restarted", "restart"), ("lost", "loss"), ("refused", "loss"),
                ("refused", "restart")):
            self.assertIn((word, deed, True, False), seen)
        for word in ("taken", "told", "turned", "stopped", "refused"):
            self.assertIn((word, "1", False, True), seen)
        self.assertIn(("lost", "loss", False, True), seen)

    def test_point_62_by_hand(self):
        fmt = Format(2, 3, tables=[GAPS])
        state = ((0, ()), "10", (0, 1, 99))
        self.same(done(fmt, state, "0"), (("told", (1,)), ((0, ()), "", (1, 99, 1))))
        self.same(done(fmt, state, "1"), (("refused",), state))
        self.same(done(fmt, state, "loss"), (("refused",), state))
        allowed = remade(fmt, restarts=True)
        self.same(done(allowed, state, "loss"), (("lost",), ((0, ()), "", (1, 99, 99))))
        self.same(done(allowed, state, "restart"), (("restarted",), ((0, ()), "", (0, 1, 99))))
        # A copy that is longer than its distance, and a hole that is copied.
        rows = [(("letter", 0, 1), 1), (("copy", 1, 0, 3, 0), 2), (("copy", 2, 0, 3, 0), 2)]
        fmt = Format(2, 2, tables=[rows])
        self.same(done(fmt, ((0, ()), "1", (0, 99)), "0"), (("told", (99, 99, 99)), ((0, ()), "", (99, 99))))
        self.same(done(fmt, ((0, ()), "1", (0, 99)), "1"), (("told", (0, 99, 0)), ((0, ()), "", (99, 0))))

    def test_wrong_deeds(self):
        fmt = Format(2, 3, tables=[STOPS])
        for wrong in NO_DEEDS + NO_SERIES:
            self.refused(BadDeed, done, fmt, ((0, ()), "", (0, 1, 0)), wrong)
        # Deeds that are refused are deeds.
        self.same(done(fmt, (ENDED, "", (0, 1, 0)), "loss"), (("refused",), (ENDED, "", (0, 1, 0))))

    def test_point_64_parts_and_refused_deeds(self):
        dice, left_out = random.Random(64), 0
        for fmt in some_formats(64, 80, most=12):
            state = some_state(dice, fmt)
            deeds = some_deeds(dice, 30)
            answers, behind = slow_deeds(fmt, state, deeds)
            now, found = state, []
            for deed in deeds:
                answer, now = done(fmt, now, deed)
                found.append(answer)
            self.same((found, now), (answers, behind))
            kept = [(deed, answer) for deed, answer in zip(deeds, answers) if answer != ("refused",)]
            now = state
            for deed, answer in kept:
                met, now = done(fmt, now, deed)
                self.same(met, answer)
            self.same(now, behind)
            left_out += len(deeds) - len(kept)
        self.assertGreater(left_out, 200)

    def test_point_69_restarts_and_losses(self):
        dice = random.Random(69)
        for fmt in some_formats(69, 40, most=12, restarts=(True,)):
            for standing in slow_standings(fmt):
                state = some_state(dice, fmt, [standing])
                start = list(slow_controls(fmt))[0]
                self.same(done(fmt, state, "restart"), (("restarted",), (start, "", state[2])))
                now = state
                for many in range(1, fmt.width + 2):
                    now = done(fmt, now, "loss")[1]
                    if dice.random() < 0.5:
                        now = done(fmt, now, "restart")[1]
                    self.same(now, (start, "", (state[2] + (99,) * many)[-fmt.width:]))


class Shown(Case):
    def test_answers(self):
        for answer, text in (
                (("told", (1,)), "told 1"), (("told", (0, 15, 99, 1)), "told 0 15 99 1"), (("taken",), "taken"),
                (("refused",), "refused"), (("turned",), "turned"), (("stopped",), "stopped"),
                (("restarted",), "restarted"), (("lost",), "lost")):
            self.same(shown_answer(answer), text)
