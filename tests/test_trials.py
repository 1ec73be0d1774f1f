"""Points 147 and 148."""

import random

from deskwork import SlowDesk, some_act
from helpers import NO_INTEGERS, NO_SERIES, Case
from leastreader.desks import Desk
from leastreader.errors import Abandoned, BadDeed, BadName, BadSize, NotDone
from leastreader.formats import Format
from leastreader.trials import Trial, abandoned, tried
from pairs import classes_of
from slow import COPIES, STOPS, remade, some_deeds
from test_desks import FMT, formats, some_window
from test_states import NO_DEEDS, NO_FUTURES

NO_ACTS = NO_DEEDS + NO_SERIES + (
    (), ("undo",), ("undo", 1, 2), ["undo", 1], ("Undo", 1), ("go_on", 1), ("go", 1), ("keep",), (1, "keep"), ("0", 1), ("lose", 1),
    ("take", "0"), ("restart", 1), ("loss", 2), (["keep"], 1), (None, 0), ("twin", 0))


def parts_of(desk):
    """All that a trial gives back; what can be undone is undone by a twin of a trial."""
    return desk.state, desk.told_text, [(name, desk.head(name).held) for name in desk.names()], undone(desk)


def undone(desk):
    """The states and outputs behind each number of deeds that can be undone."""
    found = []
    with desk.trial():
        while True:
            try:
                desk.undo()
            except NotDone:
                return found
            found.append((desk.state, desk.told_text))


def some_desk(dice, fmt):
    desk = Desk(fmt, window=some_window(dice, fmt))
    desk.feed(some_deeds(dice, 3))
    desk.keep(7)
    desk.feed(some_deeds(dice, 3))
    return desk


class Trials(Case):
    def test_point_147_what_was_done_is_gone(self):
        dice = random.Random(147)
        for fmt in formats(1471, 50):
            desk = some_desk(dice, fmt)
            before = parts_of(desk)
            with Trial(desk) as held:
                self.assertIs(held, desk)
                desk.feed(some_deeds(dice, 5))
                desk.undo(dice.randint(0, 11))
                desk.keep(7)
                desk.keep(8)
                desk.feed(some_deeds(dice, 2))
                desk.go_on(8)
                desk.forget(7)
                desk.feed(some_deeds(dice, 2))
            self.same(parts_of(desk), before)

    def test_point_147_errors_end_trials(self):
        desk = some_desk(random.Random(1), FMT)
        before = parts_of(desk)
        for error in (ValueError, KeyError, Abandoned, ZeroDivisionError):
            with self.assertRaises(error):
                with desk.trial():
                    desk.feed("0110")
                    desk.undo(7)
                    desk.keep(1)
                    raise error("x")
            self.same(parts_of(desk), before)
        with self.assertRaises(BadName):
            with desk.trial():
                desk.feed("01")
                desk.go_on(55)
        self.same(parts_of(desk), before)

    def test_point_147_trials_within_trials(self):
        dice, depth = random.Random(1472), 0
        for fmt in formats(1472, 30):
            window = some_window(dice, fmt)
            desk, slow = Desk(fmt, window=window), SlowDesk(fmt, window, classes_of(fmt))
            depth = max(depth, self.nest(dice, desk, slow, 4))
        self.same(depth, 4)

    def nest(self, dice, desk, slow, depth):
        for _ in range(6):
            act = some_act(dice)
            if slow.do(act) is not False:
                self.assertEqual(tried(desk, [act])[0] is None, not isinstance(act, str))
                desk.take(act) if isinstance(act, str) else getattr(desk, act[0].replace(" ", "_"))(act[1])
        if depth:
            kept = slow.copy()
            with Trial(desk):
                self.nest(dice, desk, slow, depth - 1)
            slow.put(kept)
        self.same((desk.state, desk.told_text, desk.names()), (slow.state, slow.output, sorted(slow.heads)))
        self.same([desk.head(name).held for name in desk.names()], [slow.heads[name] for name in sorted(slow.heads)])
        self.same(undone(desk), [(state, output) for state, output in slow.before[::-1]])
        return depth

    def test_what_is_done_behind_a_trial(self):
        desk = Desk(FMT, window=(0, 1, 0))
        desk.feed("01")
        with desk.trial():
            desk.undo(2)
        desk.feed("00")
        self.same(desk.told_text, (1, 0))
        desk.undo(4)
        self.refused(NotDone, desk.undo)

    def test_two_trials_one_after_the_other_and_a_twin(self):
        desk = Desk(FMT, window=(0, 1, 0))
        first, second = desk.trial(), Trial(desk)
        with first:
            desk.feed("01")
        with second:
            desk.feed("00")
            twin = desk.twin()
        self.same((desk.told_text, twin.told_text), ((), (0,)))


class Tried(Case):
    def test_point_148_acts(self):
        dice, seen = random.Random(148), {}
        for fmt in formats(148, 60):
            for _ in range(4):
                desk, window = some_desk(dice, fmt), some_window(dice, fmt)
                desk = Desk(fmt, window=window)
                slow = SlowDesk(fmt, window, classes_of(fmt))
                for deed in some_deeds(dice, 2):
                    desk.take(deed)
                    slow.do(deed)
                before = parts_of(desk)
                acts, expected, error = [some_act(dice) for _ in range(dice.randint(0, 9))], [], None
                for act in acts:
                    expected.append(slow.do(act))
                    if expected[-1] is False:
                        error = NotDone if act[0] == "undo" else BadName
                        break
                if error:
                    self.refused(error, tried, desk, tuple(acts))
                else:
                    self.same(tried(desk, acts), expected)
                    self.same(tried(desk, tuple(acts)), expected)
                self.same(parts_of(desk), before)
                seen[error] = seen.get(error, 0) + 1
        self.assertTrue({None, NotDone, BadName} <= set(seen))

    def test_what_is_no_act(self):
        desk = some_desk(random.Random(2), FMT)
        before = parts_of(desk)
        for wrong in NO_ACTS:
            if wrong not in ("0", "1"):
                self.refused(BadDeed, tried, desk, [wrong])
                self.refused(BadDeed, tried, desk, ("0", ("keep", 1), wrong, ("undo", -1)))
                self.same(parts_of(desk), before)
        for wrong in NO_SERIES:
            self.refused(BadDeed, tried, desk, wrong)

    def test_the_first_error_of_an_act(self):
        desk = Desk(FMT, window=(0, 1, 0))
        for wrong in NO_INTEGERS + (-1, 2001):
            self.refused(BadSize, tried, desk, ["0", ("undo", wrong), None])
        for word in ("keep", "go on", "forget"):
            for wrong in NO_INTEGERS + (-1, 100):
                self.refused(BadName, tried, desk, ["0", (word, wrong), None])
        self.refused(BadName, tried, desk, [("keep", 5), ("forget", 5), ("go on", 5)])
        self.refused(NotDone, tried, desk, ["0", ("undo", 2), ("go on", 1)])
        self.refused(NotDone, tried, desk, ["0", ("keep", 1), ("go on", 1), ("undo", 1)])
        self.refused(BadDeed, tried, desk, [("undo", 0), "2", ("undo", 1)])
        self.same((desk.state, desk.names()), (((0, ()), "", (0, 1, 0)), []))
        self.same(tried(desk, []), [])
        self.same(tried(desk, ["loss", ("undo", 1), "restart"]), [("lost",), None, ("restarted",)])

    def test_lists_are_left_as_they_were(self):
        acts = ["0", ("keep", 7), "1", ("undo", 1), "0"]
        tried(Desk(FMT), acts).clear()
        self.same(acts, ["0", ("keep", 7), "1", ("undo", 1), "0"])


class AbandonedTrials(Case):
    def test_abandoned(self):
        dice = random.Random(1473)
        for fmt in (FMT, Format(2, 2, tables=[STOPS]), remade(FMT, tables=[COPIES], restarts=False)):
            desk = some_desk(dice, fmt)
            before = parts_of(desk)
            for deeds in ("", "0110", [], ["0", "loss"], ("restart", "1")):
                self.refused(Abandoned, abandoned, desk, deeds)
                self.same(parts_of(desk), before)
            for wrong in NO_FUTURES + (["0", "2"], [("keep", 1)]):
                self.refused(BadDeed, abandoned, desk, wrong)
                self.same(parts_of(desk), before)

    def test_deeds_are_left_as_they_were(self):
        deeds = ["0", "1"]
        self.refused(Abandoned, abandoned, Desk(FMT), deeds)
        self.same(deeds, ["0", "1"])
