"""Points 142 to 146."""

import random

from deskwork import SlowDesk, some_act
from helpers import NO_INTEGERS, NO_SERIES, Case
from leastreader.alikes import alike as states_alike
from leastreader.desks import Desk
from leastreader.errors import BadDeed, BadName, BadSize, BadWindow, NotAllowed, NotDone, TooLarge
from leastreader.formats import Format
from leastreader.heads import Head
from leastreader.leasts import least_state, state_with
from leastreader.noticing import places_of
from leastreader.readers import Reader
from leastreader.trials import Trial
from losing import small_formats
from pairs import classes_of, small_pairs
from slow import (
    COPIES, GAPS, STOPS, remade, slow_deeds, slow_output, slow_reach, slow_standings, some_deeds, some_formats, some_state)
from test_controls import crowd
from test_states import NO_DEEDS, NO_FUTURES

FMT = Format(2, 3, tables=[COPIES], restarts=True)
NO_NAMES = NO_INTEGERS + (-1, 100, 10 ** 30, "0", (), [0])


def formats(seed, count):
    yield FMT
    yield from small_formats(seed, count)
    yield from some_formats(seed + 1, count // 2, most=12, n=(2, 3), width=(1, 5))


def some_window(dice, fmt):
    return some_state(dice, fmt)[2]


class Taking(Case):
    def test_point_142_answers_as_a_reader_does_in_whatever_parts(self):
        dice, refused = random.Random(142), 0
        for fmt in formats(142, 60):
            window = some_window(dice, fmt)
            desk, reader = Desk(fmt, window=list(window)), Reader(fmt, window=window)
            self.same((desk.state, desk.told_text), (((0, fmt.recents), "", window), ()))
            self.assertEqual(desk.fmt, fmt)
            for _ in range(8):
                deeds = some_deeds(dice, dice.randint(0, 5))
                kind = dice.randrange(5)
                if kind == 0:
                    self.same([desk.take(deed) for deed in deeds], reader.feed(deeds))
                elif kind == 1:
                    self.same(desk.restart(), reader.restart())
                elif kind == 2:
                    many = dice.randint(1, 4)
                    self.same(desk.lose(many), reader.lose(many))
                elif kind == 3:
                    self.same(desk.lose(), reader.lose())
                else:
                    answers = reader.feed(deeds)
                    self.same(desk.feed(tuple(deeds)), answers)
                    refused += answers.count(("refused",))
                self.same((desk.state, desk.told_text), (reader.state, reader.told()))
        self.assertGreater(refused, 30)

    def test_a_window_of_holes(self):
        desk = Desk(FMT)
        self.same(desk.state, ((0, ()), "", (99, 99, 99)))
        self.same(desk.feed("0110"), [("taken",), ("told", (1,)), ("taken",), ("told", (1,))])
        self.same(Desk(FMT).feed("11"), [("taken",), ("told", (99,))])
        self.same((desk.feed(""), desk.feed([]), desk.told_text), ([], [], (1, 1)))

    def test_wrong_windows_and_too_many_controls(self):
        for wrong in NO_SERIES[1:] + ((0, 1), (0, 1, 0, 1), (0, 1, 2), (0, 1, True), ()):
            self.refused(BadWindow, Desk, FMT, window=wrong)
        for window in (None, (), (0,) * 5):
            self.same(self.refused(TooLarge, Desk, crowd(last=[(("stop",), 3)]), window=window).limit, 150)

    def test_wrong_deeds(self):
        desk = Desk(FMT, window=(0, 1, 0))
        desk.feed("01")
        for wrong in NO_DEEDS + NO_SERIES:
            if wrong not in ("0", "1"):
                self.refused(BadDeed, desk.take, wrong)
        for wrong in NO_FUTURES + (["0", "2"], "012"):
            self.refused(BadDeed, desk.feed, wrong)
        for wrong in NO_INTEGERS + (0, -1, 2001, 10 ** 30):
            self.refused(BadSize, desk.lose, wrong)
        self.same((desk.state, desk.told_text), (((0, ()), "", (1, 0, 1)), (1,)))
        desk.undo(2)
        self.refused(NotDone, desk.undo)

    def test_the_output_is_not_assigned(self):
        desk = Desk(FMT, window=(0, 1, 0))
        desk.feed("01")
        for value in ((), (1,), None, [0]):
            with self.assertRaises(NotAllowed):
                desk.told_text = value
        for name in ("fmt", "state"):
            with self.assertRaises(AttributeError):
                setattr(desk, name, None)
        self.same(desk.told_text, (1,))


class Undoing(Case):
    def test_point_143_and_144_against_a_slow_desk(self):
        dice, seen = random.Random(143), {}
        for fmt in formats(143, 60):
            classes, window = classes_of(fmt), some_window(dice, fmt)
            desk, slow = Desk(fmt, window=window), SlowDesk(fmt, window, classes)
            for _ in range(50):
                act = some_act(dice)
                expected = slow.do(act)
                self.same(self.do(desk, act), expected)
                self.check(desk, slow)
                key = (act if isinstance(act, str) else act[0], expected is False)
                seen[key] = seen.get(key, 0) + 1
        for word in ("undo", "go on", "forget"):
            self.assertGreater(min(seen[word, True], seen[word, False]), 30)

    def do(self, desk, act):
        if isinstance(act, str):
            return desk.take(act)
        method = {"undo": desk.undo, "keep": desk.keep, "go on": desk.go_on, "forget": desk.forget}[act[0]]
        try:
            return method(act[1])
        except (NotDone, BadName) as error:
            self.assertIs(type(error), NotDone if act[0] == "undo" else BadName)
            return False

    def check(self, desk, slow):
        self.same((desk.state, desk.told_text), (slow.state, slow.output))
        self.same(desk.names(), sorted(slow.heads))
        for name, held in slow.heads.items():
            self.assertIsInstance(desk.head(name), Head)
            self.same(desk.head(name).held, held)
        self.same(desk.least(), least_state(slow.classes, slow.state))

    def test_point_143_by_hand(self):
        desk = Desk(FMT, window=(0, 1, 0))
        self.refused(NotDone, desk.undo, 1)
        self.same(desk.undo(0), None)
        answers = desk.feed("011")
        self.same(desk.undo(3), None)
        self.same((desk.state, desk.told_text), (((0, ()), "", (0, 1, 0)), ()))
        self.same(desk.feed("011"), answers)
        desk.undo()
        self.same(desk.state, ((0, ()), "", (1, 0, 1)))
        self.refused(NotDone, desk.undo, 3)
        self.same(desk.state, ((0, ()), "", (1, 0, 1)))
        desk.lose(5)
        self.same(desk.told_text, (1, 99, 99, 99, 99, 99))
        desk.undo(4)
        self.same((desk.told_text, desk.state[2]), ((1, 99), (0, 1, 99)))
        desk.undo(3)
        self.refused(NotDone, desk.undo)

    def test_point_143_refused_deeds_count(self):
        desk = Desk(remade(FMT, restarts=False), window=(0, 1, 0))
        self.same((desk.feed("01"), desk.lose(3), desk.restart()), ([("taken",), ("told", (1,))], ("refused",), ("refused",)))
        desk.undo(4)
        self.same(desk.told_text, (1,))
        desk.undo(2)
        self.refused(NotDone, desk.undo)
        ended = Desk(Format(2, 2, tables=[STOPS]), window=(0, 1))
        self.same(ended.feed("1100"), [("taken",), ("stopped",), ("refused",), ("refused",)])
        ended.undo(2)
        self.same(ended.state, ((-1, ()), "", (0, 1)))
        ended.undo(1)
        self.same(ended.state, ((0, ()), "1", (0, 1)))

    def test_wrong_numbers(self):
        desk = Desk(FMT)
        desk.lose(2000)
        desk.lose(1)
        for wrong in NO_INTEGERS + (-1, 2001, 10 ** 30):
            self.refused(BadSize, desk.undo, wrong)
        self.same(len(desk.told_text), 2001)
        desk.undo(2000)
        self.same(len(desk.told_text), 1)
        self.refused(NotDone, desk.undo, 2000)


class Heads(Case):
    def test_point_144_heads_stay_and_go_on(self):
        dice = random.Random(144)
        for fmt in formats(144, 50):
            classes, desk = classes_of(fmt), Desk(fmt, window=some_window(dice, fmt))
            desk.feed(some_deeds(dice, 6))
            state, output = desk.state, desk.told_text
            self.same(desk.keep(5), None)
            held = least_state(classes, state)
            more = some_deeds(dice, 8)
            answers = desk.feed(more)
            told = desk.told_text
            self.same(desk.head(5).held, held)
            self.same(desk.go_on(5), None)
            self.same((desk.state, desk.told_text), (state_with(classes, held), told))
            self.refused(NotDone, desk.undo)
            self.same(desk.feed(more), answers)
            desk.undo(len(more))
            self.refused(NotDone, desk.undo)
            self.same(desk.head(5).reader().feed(more), answers)
            self.same(told[:len(output)], output)

    def test_point_145_what_a_head_keeps(self):
        dice = random.Random(145)
        for fmt in formats(145, 40):
            classes = classes_of(fmt)
            for standing in slow_standings(fmt):
                desk = Desk(fmt)
                desk.now = standing + (some_window(dice, fmt),)
                desk.keep(0)
                head, places = desk.head(0), places_of(classes, standing)
                reach = classes.reach()
                self.same(len(head), reach.depth(classes.one.number_of(standing[0]), standing[1]))
                self.assertLessEqual(len(places), slow_reach(fmt, standing[0])[0])

    def test_names(self):
        desk = Desk(FMT)
        for name in (99, 0, 50, 7):
            desk.keep(name)
        self.same(desk.names(), [0, 7, 50, 99])
        self.same(desk.forget(50), None)
        desk.names().clear()
        self.same(desk.names(), [0, 7, 99])
        for call in (desk.head, desk.go_on, desk.forget):
            for missing in (50, 1, 98):
                self.refused(BadName, call, missing)
        for call in (desk.keep, desk.head, desk.go_on, desk.forget):
            for wrong in NO_NAMES:
                self.refused(BadName, call, wrong)
        self.same(desk.names(), [0, 7, 99])

    def test_a_head_is_replaced(self):
        desk = Desk(FMT, window=(0, 1, 0))
        desk.keep(3)
        first = desk.head(3)
        desk.feed("01")
        desk.keep(3)
        self.same((first.held, desk.head(3).held, desk.names()), (("at", 0, (1, 0)), ("at", 0, (0, 1)), [3]))
        desk.undo(2)
        self.same(desk.head(3).held, ("at", 0, (0, 1)))
        self.same(desk.state[2], (0, 1, 0))


class Two(Case):
    def test_point_146_alike_and_parting(self):
        dice, seen = random.Random(146), set()
        for one, other in small_pairs(146, 60):
            classes = classes_of(one, other)
            for _ in range(5):
                desks = [Desk(fmt, window=some_window(dice, fmt)) for fmt in (one, other)]
                for desk in desks:
                    desk.feed(some_deeds(dice, dice.randint(0, 4)))
                expected = states_alike(classes, desks[0].state, desks[1].state, second=True)
                self.same(desks[0].alike(desks[1]), expected)
                self.same(desks[1].alike(desks[0]), expected)
                states = [desk.state for desk in desks]
                deeds = desks[0].parting(desks[1])
                self.assertEqual(deeds is None, expected)
                if deeds is not None:
                    self.assertIsInstance(deeds, list)
                    answers = [slow_deeds(fmt, state, deeds)[0] for fmt, state in zip((one, other), states)]
                    self.same(answers[0][:-1], answers[1][:-1])
                    self.assertNotEqual(answers[0][-1], answers[1][-1])
                else:
                    more = some_deeds(dice, 10)
                    self.same(desks[0].feed(more), desks[1].feed(more))
                    self.same(desks[0].alike(desks[1]), True)
                    desks[0].undo(10)
                    desks[1].undo(10)
                self.same([desk.state for desk in desks], states)
                seen.add((expected, one.width == other.width, one == other))
        self.assertTrue({
            (False, True, False), (False, False, False), (True, False, False), (True, True, True), (False, True, True)} <= seen)

    def test_one_desk_and_itself(self):
        desk = Desk(FMT, window=(0, 1, 0))
        self.same((desk.alike(desk), desk.parting(desk)), (True, None))
        other = Desk(FMT, window=(1, 1, 0))
        self.same((desk.alike(other), desk.parting(other)), (True, None))
        other = Desk(FMT, window=(0, 0, 0))
        self.same((desk.alike(other), desk.parting(other)), (False, ["1", "1"]))

    def test_point_147_twins(self):
        dice = random.Random(147)
        for fmt in formats(147, 40):
            desk = Desk(fmt, window=some_window(dice, fmt))
            desk.feed(some_deeds(dice, 5))
            desk.keep(1)
            twin = desk.twin()
            self.assertIsInstance(twin, Desk)
            parts = (desk.state, desk.told_text, desk.names())
            self.same((twin.state, twin.told_text, twin.names()), parts)
            self.same(twin.head(1).held, desk.head(1).held)
            self.refused(NotDone, twin.undo)
            deeds = some_deeds(dice, 6)
            answers = twin.feed(deeds)
            twin.keep(2)
            twin.forget(1)
            self.same((desk.state, desk.told_text, desk.names()), parts)
            self.same(desk.feed(deeds), answers)
            desk.keep(1)
            desk.keep(3)
            desk.undo(11)
            self.same((twin.names(), len(slow_output(answers))), ([2], len(twin.told_text) - len(parts[1])))
            self.same(twin.state, slow_deeds(fmt, parts[0], deeds)[1])

    def test_trials_are_made(self):
        desk = Desk(Format(2, 3, tables=[GAPS]))
        trial = desk.trial()
        self.assertIsInstance(trial, Trial)
        with trial as held:
            self.assertIs(held, desk)
            desk.feed("00")
        self.same(desk.told_text, ())
