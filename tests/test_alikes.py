"""Points 78, 79, 81, 82, 88 and 89."""

import itertools
import random

from helpers import Case
from leastreader.alikes import alike, parting_future, parting_stream, read_alike
from leastreader.controls import ENDED
from leastreader.covers import Covers
from leastreader.errors import BadState
from leastreader.formats import Format
from leastreader.patterns import pattern_of
from pairs import AGAINS, NO_COMMON, ONE_COMMON, OPEN, classes_of, flat_pairs, small_pairs
from slow import (
    COPIES, DEEDS, STOPS, all_states, remade, shuffled, slow_blocks, slow_controls, slow_deed, slow_deeds, slow_reach,
    slow_standings, slow_streams_alike, some_deeds, some_formats, some_state)
from test_states import wrong_states


class Checked(Case):
    def check_future(self, classes, one, a, last, b, second):
        """The future is as point 79 says; returns it."""
        deeds = parting_future(classes, a, b, second=second)
        self.assertIs(type(deeds), list)
        first, other = slow_deeds(one, a, deeds)[0], slow_deeds(last, b, deeds)[0]
        self.same(first[:-1], other[:-1])
        self.assertNotEqual(first[-1], other[-1])
        self.assertNotIn("loss", deeds)
        self.assertNotIn(("refused",), first[:-1])
        self.check_steps(classes, one, a, last, b, deeds)
        return deeds

    def check_steps(self, classes, one, a, last, b, deeds):
        """The number of steps, each of which is one of both states but the last one, which may be cut short."""
        most = classes.count() * max(one.width, last.width) + 1
        steps = 0
        for deed in deeds[:-1]:
            answer, a = slow_deed(one, a, deed)
            b = slow_deed(last, b, deed)[1]
            steps += answer != ("taken",)
        self.assertLessEqual(steps + 1, most)
        # The last step is a rest, a word or a restart of at least one of the two states.
        answers = [slow_deed(fmt, state, deeds[-1])[0] for fmt, state in ((one, a), (last, b))]
        self.assertNotEqual(answers, [("refused",)] * 2)

    def check_stream(self, classes, one, a, last, b, second):
        """The stream is as the interface says; returns it."""
        deeds = parting_stream(classes, a, b, second=second)
        self.assertIs(type(deeds), list)
        first, other = slow_deeds(one, a, deeds)[0], slow_deeds(last, b, deeds)[0]
        self.assertNotIn(("refused",), first)
        self.same(first[:-1], other[:-1])
        self.assertNotEqual(first[-1], other[-1])
        return deeds


class Alike(Checked):
    def test_points_78_and_79_all_states_of_small_formats(self):
        dice, lengths = random.Random(79), set()
        for one, other in small_pairs(79, 25):
            classes, blocks = classes_of(one, other), slow_blocks((one, other))
            first = all_states(one)
            for second, last in ((False, one), (True, other)):
                states = all_states(last)
                for _ in range(600):
                    a, b = dice.choice(first), dice.choice(states)
                    same = blocks[0, a] == blocks[int(second), b]
                    self.assertIs(alike(classes, a, b, second=second), same)
                    if same:
                        self.same(parting_future(classes, a, b, second=second), None)
                    else:
                        deeds = self.check_future(classes, one, a, last, b, second)
                        lengths.add((len(deeds), a[1] != "", b[1] != ""))
        self.assertTrue({(1, False, False), (4, False, False), (2, True, True), (4, True, True), (2, False, True)} <= lengths)

    def test_point_79_larger_formats(self):
        dice = random.Random(791)
        for fmt in some_formats(791, 60, most=12, n=(2, 3), width=(2, 6), pairs=4):
            other = dice.choice([fmt, shuffled(dice, fmt), remade(fmt, width=fmt.width + 2)])
            if len(slow_controls(other)) > 60:
                continue
            classes = classes_of(fmt, other)
            first, last = slow_standings(fmt), slow_standings(other)
            for _ in range(60):
                a, b = some_state(dice, fmt, first), some_state(dice, other, last)
                if not alike(classes, a, b, second=True):
                    self.check_future(classes, fmt, a, other, b, True)
                # States that differ in one place alone.
                place = dice.randint(1, fmt.width)
                window = list(a[2])
                window[-place] = 99 if window[-place] != 99 else 0
                b = a[:2] + (tuple(window),)
                if not alike(classes, a, b):
                    deeds = self.check_future(classes, fmt, a, fmt, b, False)
                    self.assertIn(window[-place], slow_deeds(fmt, b, deeds)[0][-1][1])

    def test_points_79_and_89_where_letters_are_copies_on_the_other_side(self):
        dice, parted = random.Random(793), 0
        for one, other in flat_pairs(793, 500):
            classes = classes_of(one, other)
            first = [(control, "") for control in slow_controls(one)]
            last = [(control, "") for control in slow_controls(other)]
            for _ in range(12):
                a, b = some_state(dice, one, first, holes=False), some_state(dice, other, last, holes=False)
                if not alike(classes, a, b, second=True):
                    self.check_future(classes, one, a, other, b, True)
                    parted += 1
                if not read_alike(classes, a, b, second=True):
                    self.check_stream(classes, one, a, other, b, True)
        self.assertGreater(parted, 4000)

    def test_alike_states_answer_all_short_futures_alike(self):
        dice, seen = random.Random(792), 0
        for one, other in small_pairs(792, 30):
            classes = classes_of(one, other)
            for _ in range(40):
                a, b = some_state(dice, one), some_state(dice, other)
                deeds = some_deeds(dice, 8, DEEDS)
                if alike(classes, a, b, second=True):
                    self.same(slow_deeds(one, a, deeds)[0], slow_deeds(other, b, deeds)[0])
                    seen += 1
        self.assertGreater(seen, 50)

    def test_point_79_where_few_letters_have_a_word_in_common(self):
        for rows in (NO_COMMON, ONE_COMMON, OPEN):
            self.part_all(Format(2, 2, tables=[rows[0]]), Format(2, 2, tables=[rows[1]]))
            self.part_all(Format(2, 3, tables=[rows[1]]), Format(2, 2, tables=[rows[0]]))
        self.part_all(Format(2, 2, recents=(1, 2), tables=[AGAINS[0]]), Format(2, 2, recents=(1, 2), tables=[AGAINS[1]]))
        self.part_all(Format(2, 2, recents=(1, 2), tables=[AGAINS[1]]), Format(2, 3, recents=(2, 1), tables=[AGAINS[0]]))

    def part_all(self, one, other):
        classes = classes_of(one, other)
        blocks = slow_blocks((one, other))
        for a, b in itertools.product(all_states(one), all_states(other)):
            if blocks[0, a] != blocks[1, b]:
                self.check_future(classes, one, a, other, b, True)
            else:
                self.same(parting_future(classes, a, b, second=True), None)

    def test_point_81_what_is_not_kept(self):
        dice, seen = random.Random(811), 0
        for fmt in some_formats(811, 60, most=12):
            classes = classes_of(fmt)
            standings = slow_standings(fmt)
            for a, b in itertools.product(standings[:12], standings[:12]):
                window = some_state(dice, fmt)[2]
                if pattern_of(classes, a) == pattern_of(classes, b):
                    self.assertIs(alike(classes, a + (window,), b + (window,)), True)
                    seen += a != b
        self.assertGreater(seen, 50)

    def test_point_82_bits_begun_and_none(self):
        for one, other in small_pairs(82, 20):
            classes = classes_of(one, other)
            for a in [state for state in all_states(one) if not state[1]]:
                for b in [state for state in all_states(other) if state[1]]:
                    self.assertIs(alike(classes, a, b, second=True), False)

    def test_by_hand(self):
        fmt = Format(2, 3, tables=[STOPS])
        classes = classes_of(fmt, remade(fmt, restarts=True))
        start = ((0, ()), "", (0, 1, 0))
        self.assertIs(alike(classes, start, [(0, ()), "", [1, 1, 0]]), True)
        self.same(parting_future(classes, start, start), None)
        self.same(parting_future(classes, (ENDED, "", (0, 1, 0)), (ENDED, "", (1, 0, 0)), second=True), ["restart"])
        self.same(parting_future(classes, start, (ENDED, "", (0, 1, 0))), ["0"])
        self.same(parting_future(classes, start, ((0, ()), "", (0, 0, 0))), ["1", "0"])
        self.same(parting_future(classes, ((0, ()), "1", (0, 1, 0)), ((0, ()), "1", (0, 1, 1))), ["0"])


class Streams(Checked):
    def test_point_89_all_states_of_small_formats(self):
        none, some = 0, 0
        for one, other in small_pairs(89, 60):
            classes = classes_of(one, other)
            if len(all_states(one)) * len(all_states(other)) > 9000:
                continue
            good = slow_streams_alike(one, other)
            for a in [state for state in all_states(one) if not state[1]]:
                for b in [state for state in all_states(other) if not state[1]]:
                    same = (a, b) in good
                    self.assertIs(read_alike(classes, a, b, second=True), same)
                    if same:
                        self.same(parting_stream(classes, a, b, second=True), None)
                    else:
                        self.check_stream(classes, one, a, other, b, True)
                    none, some = none + same, some + (not same)
        self.assertTrue(none > 500 and some > 2000)

    def test_point_89_one_format(self):
        for fmt, _ in small_pairs(891, 30):
            if len(all_states(fmt)) > 90:
                continue
            classes = classes_of(fmt)
            good = slow_streams_alike(fmt, fmt)
            for a, b in itertools.product([state for state in all_states(fmt) if not state[1]], repeat=2):
                self.assertIs(read_alike(classes, a, b), (a, b) in good)
                if (a, b) not in good:
                    self.check_stream(classes, fmt, a, fmt, b, False)

    def test_point_89_by_covers_and_reaches(self):
        dice = random.Random(892)
        for fmt in some_formats(892, 50, most=10, width=(2, 6)):
            other = dice.choice([fmt, shuffled(dice, fmt), remade(fmt, width=fmt.width + 1)])
            if len(slow_controls(other)) > 20:
                continue
            classes = classes_of(fmt, other)
            covers = Covers(classes.one, classes.other)
            for a, x in enumerate(classes.one):
                for b, y in enumerate(classes.other):
                    v, w = some_state(dice, fmt)[2], some_state(dice, other)[2]
                    depth = slow_reach(fmt, x)[0]
                    equal = covers.covered(a, b) and v[fmt.width - depth:] == w[other.width - depth:]
                    self.assertIs(read_alike(classes, (x, "", v), (y, "", w), second=True), equal)
                    if not equal:
                        self.check_stream(classes, fmt, (x, "", v), other, (y, "", w), True)

    def test_by_hand(self):
        stops, more = Format(2, 3, tables=[STOPS[:3]]), Format(2, 3, tables=[STOPS])
        classes = classes_of(stops, more)
        start = ((0, ()), "", (0, 1, 0))
        self.assertIs(read_alike(classes, start, [(0, ()), "", [1, 1, 0]], second=True), True)
        self.assertIs(alike(classes, start, start, second=True), False)
        back = classes_of(more, stops)
        self.same(parting_stream(back, start, start, second=True), ["1", "1"])
        self.same(parting_stream(back, (ENDED, "", (0, 1, 0)), start, second=True), None)
        allowed = classes_of(remade(more, restarts=True), more)
        self.same(parting_stream(allowed, (ENDED, "", (0, 1, 0)), start, second=True), ["restart"])


class Starts(Case):
    def test_point_88_starts_of_two_formats(self):
        dice, same = random.Random(88), 0
        for fmt in some_formats(88, 100, most=12):
            other = dice.choice([shuffled(dice, fmt), remade(fmt, width=fmt.width + 2), remade(fmt, copied="keep")])
            if len(slow_controls(other)) > 60:
                continue
            classes = classes_of(fmt, other)
            one_class = classes.walk(0, 0, b_second=True) is None
            starts = (0, fmt.recents), (0, other.recents)
            answers = []
            for _ in range(8):
                window = some_state(dice, other)[2]
                first = window[-fmt.width:]
                answers.append(alike(classes, (starts[0], "", first), (starts[1], "", window), second=True))
            self.same(answers, [one_class] * 8)
            if one_class:
                here = {classes.class_of(k) for k in range(len(classes.one))}
                there = {classes.class_of(k, second=True) for k in range(len(classes.other))}
                self.same(here, there)
                same += 1
        self.assertGreater(same, 20)


class Wrong(Case):
    def test_states_that_are_none(self):
        fmt = Format(2, 3, tables=[STOPS])
        # The first format has no stop, and windows of another width.
        classes, good = classes_of(Format(2, 2, tables=[COPIES]), fmt), ((0, ()), "", (0, 1))
        last = ((0, ()), "", (0, 1, 0))
        for call in (alike, parting_future, read_alike, parting_stream):
            for wrong in wrong_states(fmt):
                self.refused(BadState, call, classes, good, wrong, second=True)
            for wrong in (last, None, (ENDED, "", (0, 1)), ((0, ()), "10", (0, 1)), ((0, ()), "", (0, 2))):
                self.refused(BadState, call, classes, wrong, last, second=True)
                self.refused(BadState, call, classes, good, wrong)
            self.refused(BadState, call, classes_of(fmt), last, last, second=True)

    def test_bits_begun_where_streams_are_compared(self):
        fmt = Format(2, 3, tables=[STOPS])
        classes, start, begun = classes_of(fmt, fmt), ((0, ()), "", (0, 1, 0)), ((0, ()), "1", (0, 1, 0))
        for call in (read_alike, parting_stream):
            for second in (False, True):
                self.refused(BadState, call, classes, start, begun, second=second)
                self.refused(BadState, call, classes, begun, start, second=second)
                self.refused(BadState, call, classes, begun, begun, second=second)

    def test_lists_that_were_returned_or_given_can_be_changed(self):
        fmt = Format(2, 3, tables=[STOPS])
        classes, one, other = classes_of(fmt), [(0, ()), "", [0, 1, 0]], [(0, ()), "", [0, 1, 1]]
        for call in (parting_future, parting_stream):
            found = call(classes, one, other)
            before = list(found)
            found.clear()
            self.same(call(classes, one, other), before)
        self.same((one, other), ([(0, ()), "", [0, 1, 0]], [(0, ()), "", [0, 1, 1]]))
