"""Points 47 to 49, and of point 60 what it says of numbers of controls."""

import random

from helpers import NO_INTEGERS, NO_SERIES, Case, some_rows
from leastreader.controls import ENDED, Controls, controls_of
from leastreader.errors import BadBits, BadState, TooLarge
from leastreader.formats import Format
from leastreader.recents import last_used
from leastreader.telling import resolved
from slow import (
    COPIES, END, GAPS, LETTERS, STOPS, slow_begun, slow_controls, slow_links, slow_rests, some_formats, taken_walk)

AGAINS = [(("letter", 0, 0), 2), (("letter", 1, 0), 2), (("again", 0, 0, 1, 0), 2), (("again", 1, 0, 1, 0), 2)]


def turning(rows, j):
    """The pairs with a turn to table j behind them, all words a bit longer."""
    return [(sign, length + 1) for sign, length in rows] + [(("turn", j), 1)]


def crowd(*, last=()):
    """A format with 6 tables under each of which all 25 pairs of recents are reached; last are further pairs."""
    rows = [(("letter", 0, 1), 3), (("copy", 1, 2, 1, 0), 3), (("copy", 5, 0, 3, 0), 3)]
    tables = [rows + [(("turn", (j + 1) % 6), 3)] for j in range(6)]
    tables[5] += list(last)
    return Format(2, 5, recents=(1, 1), copied="push", tables=tables)


class Reached(Case):
    def test_points_47_and_48_order_ways_and_links(self):
        many, ended, restarting = 0, 0, 0
        for fmt in some_formats(48, 150, many=(0, 4)):
            slow = slow_controls(fmt)
            controls = Controls(fmt)
            self.same(list(controls), list(slow))
            self.same(len(controls), len(slow))
            self.assertIs(controls.fmt, fmt)
            self.same(controls.ended_number(), list(slow).index(END) if END in slow else None)
            for number, control in enumerate(slow):
                self.same(controls.at_number(number), control)
                self.same(controls.number_of(control), number)
                self.assertIs(control in controls, True)
                self.same(controls.way(number), slow[control])
                links = slow_links(fmt, control)
                self.same(controls.words(number), sorted(links))
                for word, (plain, behind) in links.items():
                    self.same(controls.token(number, word), plain)
                    self.same(controls.behind(number, word), list(slow).index(behind))
            many, ended, restarting = max(many, len(slow)), ended + (END in slow), restarting + fmt.restarts
        self.assertGreater(many, 60)
        self.assertTrue(30 < ended < 120 and 30 < restarting < 120)

    def test_point_48_ways_lead_there_and_none_has_fewer_words(self):
        for fmt in some_formats(481, 60, most=12):
            controls = Controls(fmt)
            layer, steps, fewest = {(0, fmt.recents)}, 0, {}
            while layer:
                fewest.update({control: steps for control in layer})
                layer = {on for control in layer for _, on in slow_links(fmt, control).values()} - set(fewest)
                steps += 1
            for number, control in enumerate(controls):
                way = controls.way(number)
                self.same(len(way), fewest[control])
                self.same(taken_walk(fmt, (0, fmt.recents), way)[1], control)

    def test_point_47_each_kind_of_token(self):
        rows = [
            (("letter", 0, 1), 2), (("copy", 2, 0, 3, 1), 3), (("again", 1, 2, 1, 0), 3), (("again", 1, 0, 4, 0), 3),
            (("turn", 1), 4), (("stop",), 5)]
        fmt = Format(2, 3, recents=(1, 3), copied="push", again="swap", tables=[rows, COPIES])
        controls = Controls(fmt)
        self.same(
            [(word, controls.token(0, word), controls.at_number(controls.behind(0, word)))
                for word in controls.words(0)], [
            ("000", ("letter", 0), (0, (1, 3))), ("001", ("letter", 1), (0, (1, 3))),
            ("0100", ("copy", 2, 3), (0, (2, 1))), ("0101", ("copy", 2, 4), (0, (2, 1))),
            ("011", ("copy", 2, 1), (0, (2, 1))), ("100", ("copy", 3, 4), (0, (3, 1))),
            ("1010", ("turn",), (1, (1, 3))), ("10110", ("stop",), ENDED)])

    def test_point_47_resolved_tokens(self):
        for fmt in some_formats(47, 60, many=(1, 4)):
            controls = Controls(fmt)
            for number, (j, recents) in enumerate(controls):
                if j >= 0:
                    for word in controls.words(number):
                        expected = resolved(fmt.table(j).token(word), recents, fmt.width)
                        self.same(controls.token(number, word), expected)

    def test_ended(self):
        self.same(ENDED, (-1, ()))
        controls = Controls(Format(2, 3, tables=[STOPS]))
        self.same(list(controls), [(0, ()), (-1, ())])
        self.same((controls.ended_number(), controls.way(1)), (1, ["11"]))
        self.same((controls.words(1), controls.begun_words(1), controls.rests(1, "")), ([], [""], []))
        for wrong in ("0", "1", None, 0, [""], ("",)):
            self.refused(BadBits, controls.rests, 1, wrong)
            self.refused(BadBits, controls.token, 1, wrong)
            self.refused(BadBits, controls.behind, 1, wrong)
        self.refused(BadBits, controls.token, 1, "")
        free = Controls(Format(2, 3, tables=[COPIES]))
        self.same(free.ended_number(), None)
        self.assertIs(ENDED in free, False)
        self.refused(BadState, free.number_of, ENDED)

    def test_point_48_tables_that_no_turn_reaches_and_turns_to_the_table_itself(self):
        fmt = Format(2, 3, tables=[turning(LETTERS, 0), turning(LETTERS, 2), turning(COPIES, 1)])
        self.same(list(Controls(fmt)), [(0, ())])
        self.same(Controls(fmt).behind(0, "0"), 0)
        fmt = Format(2, 3, recents=(2, 2), tables=[turning(LETTERS, 2), turning(LETTERS, 0), turning(COPIES, 2)])
        self.same(list(Controls(fmt)), [(0, (2, 2)), (2, (2, 2)), (2, (1, 2)), (2, (2, 1))])

    def test_begun_words_and_rests(self):
        for fmt in some_formats(33, 60):
            controls = Controls(fmt)
            for number, control in enumerate(controls):
                begun = slow_begun(fmt, control)
                self.same(controls.begun_words(number), begun)
                for bits in begun:
                    self.same(controls.rests(number, bits), slow_rests(fmt, control, bits))
                for wrong in controls.words(number) + ["2", None, 1, ["0"], ("0",), True]:
                    self.refused(BadBits, controls.rests, number, wrong)
        gaps = Controls(Format(2, 3, tables=[GAPS]))
        self.same(gaps.rests(0, "10"), ["0"])
        self.refused(BadBits, gaps.rests, 0, "101")
        self.refused(BadBits, gaps.token, 0, "101")

    def test_point_49_recents_of_front_and_front(self):
        dice = random.Random(49)
        seen = 0
        for _ in range(60):
            width, many = dice.randint(4, 6), dice.randint(0, 4)
            start = tuple(dice.sample(range(1, width + 1), many))
            rows = some_rows(dice, 2, width, many, 2), some_rows(dice, 2, width, many, 2)
            fmt = Format(2, width, recents=start, tables=list(rows))
            try:
                controls = Controls(fmt)
            except TooLarge:
                continue
            for number, control in enumerate(controls):
                if control == ENDED:
                    continue
                tokens, behind = taken_walk(fmt, (0, start), controls.way(number))
                distances = [token[1] for token in tokens if token[0] == "copy"]
                self.same(control[1], last_used(start, distances))
                self.same(behind, control)
                seen += len(distances) > 1
        self.assertGreater(seen, 300)

    def test_point_60_rules_that_keep(self):
        for fmt in some_formats(60, 150, many=(0, 4), tables=(1, 6)):
            if fmt.copied == fmt.again_rule == "keep":
                self.assertLessEqual(len(Controls(fmt)), len(fmt) + 1)
        full = [turning([(sign, length + 1) for sign, length in LETTERS] + [(("stop",), 1)], (j + 1) % 6) for j in range(6)]
        self.same(len(Controls(Format(2, 3, copied="keep", again="keep", tables=full))), 7)


class Crowds(Case):
    def test_150_reached_controls_and_more(self):
        controls = Controls(crowd())
        self.same(len(controls), 150)
        self.same(sorted(set(controls)), [(j, (a, b)) for j in range(6) for a in range(1, 6) for b in range(1, 6)])
        self.same(controls.at_number(149), list(slow_controls(crowd()))[149])
        self.same(self.refused(TooLarge, Controls, crowd(last=[(("stop",), 4)])).limit, 150)

    def test_far_more_than_150(self):
        rows = [(("letter", 0, 1), 1), (("copy", 1, 3, 1, 0), 2), (("copy", 9, 3, 1, 0), 3), (("copy", 17, 3, 1, 0), 3)]
        fmt = Format(2, 24, recents=(1, 2, 3, 4), tables=[rows] * 6)
        self.same(self.refused(TooLarge, Controls, fmt).limit, 150)
        self.same(self.refused(TooLarge, controls_of, fmt).limit, 150)
        self.same(self.refused(TooLarge, controls_of, fmt).limit, 150)


class Values(Case):
    def setUp(self):
        self.controls = Controls(Format(2, 4, recents=(1, 3), tables=[AGAINS]))

    def test_what_is_no_control(self):
        controls = self.controls
        for wrong in NO_SERIES + NO_INTEGERS + (
                [0, (1, 3)], (0, [1, 3]), (0, (1, 2)), (1, (1, 3)), (False, (1, 3)), (0, (True, 3)), (0,), (), (0, (1, 3), 0),
                (-1, ()), (0, ()), ((0, (1, 3)),), (0, (1, [3])), (0, (1, 3), "")):
            self.assertIs(wrong in controls, False)
            self.refused(BadState, controls.number_of, wrong)
        self.assertIs((0, (3, 1)) in controls, True)

    def test_what_is_no_number(self):
        for wrong in (-1, 2, 99, 10 ** 30) + NO_INTEGERS:
            for call in (
                    self.controls.at_number, self.controls.words, self.controls.begun_words, self.controls.way):
                self.refused(BadState, call, wrong)
            # The number is wrong, and the bits are, too.
            for call in (self.controls.token, self.controls.behind, self.controls.rests):
                self.refused(BadState, call, wrong, "2")

    def test_what_is_no_word(self):
        for wrong in ("0", "", "000", "2") + NO_INTEGERS + (["00"], ("00",)):
            self.refused(BadBits, self.controls.token, 0, wrong)
            self.refused(BadBits, self.controls.behind, 0, wrong)

    def test_lists_that_were_returned_can_be_changed(self):
        calls = (
            lambda: list(self.controls), lambda: self.controls.words(0), lambda: self.controls.way(1),
            lambda: self.controls.begun_words(0), lambda: self.controls.rests(0, "0"))
        for call in calls:
            found = call()
            self.assertIs(type(found), list)
            before = list(found)
            found.clear()
            found.append("x")
            self.same(call(), before)
