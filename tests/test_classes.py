"""Points 51 and 52, and of point 60 what it says of classes."""

import random

from helpers import NO_INTEGERS, NO_SERIES, Case
from leastreader.classes import Classes
from leastreader.controls import Controls
from leastreader.errors import BadClass, BadState
from leastreader.formats import Format
from slow import (
    COPIES, LETTERS, STOPS, differ_at_once, remade, slow_links, slow_walk, some_formats, taken_walk)
from test_controls import AGAINS, turning


def some_pairs(seed, count, *, most=8, **named):
    """Pairs of formats, of which the second may be None or the first one itself."""
    before = None
    for at, fmt in enumerate(some_formats(seed, count, most=most, **named)):
        others = (None, fmt, before, remade(fmt, restarts=not fmt.restarts), remade(fmt, copied="keep", again="keep"))
        yield fmt, others[at % 5]
        before = fmt


def sides(one, other):
    """The triples (second, format, number) of all controls, in the order of [51]."""
    found = [(False, one, number) for number in range(len(Controls(one)))]
    return found + [(True, other, number) for number in range(len(Controls(other)) if other else 0)]


def made(one, other):
    return Classes(Controls(one), None if other is None else Controls(other))


def least_word(one, a, other, b):
    """The least string that tells two controls apart at once, or None."""
    first, last = slow_links(one, a), slow_links(other, b)
    for word in sorted(set(first) | set(last)):
        if word not in first or word not in last or first[word][0] != last[word][0]:
            return word
    return None


class Parted(Case):
    def test_point_51_classes_and_walks_as_short_as_possible(self):
        lengths, none = set(), 0
        for one, other in some_pairs(51, 150):
            classes = made(one, other)
            controls = {False: list(classes.one), True: list(classes.other or [])}
            every = sides(one, other)
            for a_second, first, a in every:
                for b_second, last, b in every:
                    x, y = controls[a_second][a], controls[b_second][b]
                    expected = slow_walk(first, x, last, y, differ_at_once)
                    found = classes.walk(a, b, a_second=a_second, b_second=b_second)
                    same = classes.class_of(a, second=a_second) == classes.class_of(b, second=b_second)
                    self.assertEqual(same, expected is None)
                    if expected is None:
                        self.same(found, None)
                        continue
                    steps, word = found
                    self.assertIs(type(steps), list)
                    self.same(len(steps), expected)
                    self.assertLessEqual(expected, classes.count() - 2)
                    tokens, x = taken_walk(first, x, steps)
                    met, y = taken_walk(last, y, steps)
                    self.same(tokens, met)
                    self.assertTrue(differ_at_once(first, x, last, y))
                    self.same(word, least_word(first, x, last, y))
                    lengths.add(expected)
                    none += word is None
        self.assertTrue({0, 1} <= lengths)
        self.assertGreater(none, 20)

    def test_point_51_long_walks(self):
        tables = [turning(LETTERS, j + 1) for j in range(5)] + [COPIES]
        classes = made(Format(2, 3, tables=tables), None)
        self.same(classes.count(), 6)
        self.same(classes.walk(0, 1), (["0"] * 4, "0"))
        self.same([len(classes.walk(a, b)[0]) for a in range(5) for b in range(a + 1, 6)], [4, 3, 2, 1, 0] + [
            3, 2, 1, 0, 2, 1, 0, 1, 0, 0])
        # No table is told apart if all turn to one another in a ring.
        ring = made(Format(2, 3, tables=[turning(LETTERS, (j + 1) % 6) for j in range(6)]), None)
        self.same((ring.count(), len(ring.members(0))), (1, 6))

    def test_point_51_walks_by_a_restart(self):
        one = Format(2, 3, tables=[turning(LETTERS, 1), STOPS], restarts=True)
        other = remade(one, tables=[turning(COPIES, 1), STOPS])
        classes = made(one, other)
        self.same(classes.walk(1, 1, b_second=True), (["restart"], "10"))
        self.same(classes.walk(2, 2, b_second=True), (["restart"], "10"))
        self.same(classes.walk(1, 2), ([], "00"))
        without = made(remade(one, restarts=False), remade(other, restarts=False))
        self.same(without.walk(1, 1, b_second=True), None)
        self.same(without.walk(2, 2, b_second=True), None)

    def test_point_51_numbers_and_members(self):
        for one, other in some_pairs(511, 100, most=30):
            classes = made(one, other)
            found = [classes.class_of(number, second=second) for second, _, number in sides(one, other)]
            firsts = list(dict.fromkeys(found))
            self.same(firsts, list(range(len(firsts))))
            self.same(classes.count(), len(firsts))
            for cls in firsts:
                expected = [(second, number) for (second, _, number), mark in zip(sides(one, other), found) if mark == cls]
                self.same(classes.members(cls), expected)
            self.assertIs(classes.one.fmt, one)
            self.assertIs(classes.other and classes.other.fmt, other)

    def test_by_hand(self):
        fmt = Format(2, 3, tables=[STOPS])
        allowed = remade(fmt, restarts=True)
        classes = made(fmt, allowed)
        self.same((classes.count(), classes.members(0)), (4, [(False, 0)]))
        # Restarts alone tell them apart; a stop's control has no words.
        self.same(classes.walk(0, 0, b_second=True), ([], None))
        self.same(classes.walk(1, 1, b_second=True), ([], None))
        self.same(classes.walk(0, 1), ([], "00"))
        self.same(classes.walk(1, 0, a_second=True), ([], "00"))
        # Copies of a distance beyond the other window have other resolved tokens only by way of a step.
        far = [(("letter", 0, 1), 1), (("again", 0, 2, 1, 0), 1)]
        classes = made(Format(2, 3, recents=(2,), tables=[far]), Format(2, 4, recents=(2,), tables=[far]))
        self.same(classes.walk(0, 0, b_second=True), ([], "1"))
        plain = [(("letter", 0, 1), 1), (("again", 0, 0, 1, 0), 1)]
        classes = made(Format(2, 3, recents=(2,), tables=[plain]), Format(2, 4, recents=(2,), tables=[plain]))
        self.same((classes.walk(0, 0, b_second=True), classes.count()), (None, 1))
        # The least string, not the shortest: 000 is a word on one side, 1 on the other.
        one = [(("letter", 0, 0), 3), (("letter", 1, 0), 3)]
        last = [(("letter", 0, 0), 1), (("letter", 1, 0), 1)]
        self.same(made(Format(2, 3, tables=[one]), Format(2, 3, tables=[last])).walk(0, 0, b_second=True), ([], "0"))
        deep = [(("letter", 0, 0), 3), (("letter", 1, 0), 3), (("copy", 1, 0, 1, 0), 1)]
        short = [(("letter", 0, 0), 2), (("letter", 1, 0), 2), (("copy", 1, 0, 1, 0), 1)]
        self.same(made(Format(2, 3, tables=[deep]), Format(2, 3, tables=[short])).walk(0, 0, b_second=True), ([], "10"))

    def test_one_format_twice(self):
        controls = Controls(Format(2, 4, recents=(1, 3), tables=[AGAINS]))
        classes = Classes(controls, controls)
        self.assertIs(classes.one, controls)
        self.assertIs(classes.other, controls)
        self.same((classes.count(), classes.members(1)), (2, [(False, 1), (True, 1)]))

    def test_reaches(self):
        classes = made(Format(2, 4, recents=(1, 3), tables=[AGAINS]), Format(2, 3, tables=[COPIES]))
        self.assertIs(classes.reach().controls, classes.one)
        self.assertIs(classes.reach(second=True).controls, classes.other)
        self.same((classes.reach().of(0), classes.reach(second=True).of(0)), (3, 2))


class Marks(Case):
    def test_point_52_classes_fit_and_what_fits_is_finer(self):
        dice = random.Random(52)
        fitting = 0
        for one, other in some_pairs(52, 150, most=6):
            classes = made(one, other)
            every = sides(one, other)
            own = [classes.class_of(number, second=second) for second, _, number in every]
            tries = [own, list(range(len(own))), [-mark for mark in own], [0] * len(own), [mark // 2 for mark in own]]
            tries += [[dice.randrange(3) for _ in own] for _ in range(10)]
            for marks in tries:
                fits = self.slow_fit(every, marks)
                self.assertIs(classes.marks_fit(marks), fits)
                self.assertIs(classes.marks_fit(tuple(marks)), fits)
                if fits:
                    fitting += 1
                    pairs = {(mark, cls) for mark, cls in zip(marks, own)}
                    self.same(len(pairs), len(set(marks)))
            self.assertTrue(classes.marks_fit(own))
        self.assertGreater(fitting, 350)

    def slow_fit(self, every, marks):
        controls = [list(Controls(fmt))[number] for _, fmt, number in every]
        known = {(second, control): mark for (second, _, _), control, mark in zip(every, controls, marks)}
        for (s, one, _), x, mark in zip(every, controls, marks):
            for (t, other, _), y, met in zip(every, controls, marks):
                if mark == met:
                    if differ_at_once(one, x, other, y):
                        return False
                    if one.restarts and known[s, (0, one.recents)] != known[t, (0, other.recents)]:
                        return False
                    for word, (_, behind) in slow_links(one, x).items():
                        if known[s, behind] != known[t, slow_links(other, y)[word][1]]:
                            return False
        return True

    def test_what_are_no_marks(self):
        classes = made(Format(2, 4, recents=(1, 3), tables=[AGAINS]), Format(2, 3, tables=[COPIES]))
        self.assertIs(classes.marks_fit([0, 1, 2]), True)
        self.assertIs(classes.marks_fit((10 ** 30, -5, 0)), True)
        self.assertIs(classes.marks_fit([1, 1, 2]), False)
        for wrong in NO_SERIES + ([0, 1], [0, 1, 2, 3], (), [0, 1, None], [0, 1, True], "012", [0, 1, "2"], [0, 1, [2]]):
            self.refused(BadClass, classes.marks_fit, wrong)
        marks = [0, 1, 2]
        classes.marks_fit(marks)
        self.same(marks, [0, 1, 2])


class Alike(Case):
    def test_point_60_without_agains_a_table_is_a_class(self):
        for fmt in some_formats(602, 120, many=(0, 4)):
            tokens = [fmt.table(j).token(word)[0] for j in range(len(fmt)) for word in fmt.table(j)]
            if "again" not in tokens:
                classes = Classes(Controls(fmt))
                for number, control in enumerate(classes.one):
                    same = [k for k, other in enumerate(classes.one) if other[0] == control[0]]
                    self.same({classes.class_of(k) for k in same}, {classes.class_of(number)})

    def test_point_60_tables_with_other_numbers(self):
        dice = random.Random(603)
        for fmt in some_formats(603, 100, most=60, tables=(2, 5)):
            order = [0] + dice.sample(range(1, len(fmt)), len(fmt) - 1)
            tables = [None] * len(fmt)
            for j, place in enumerate(order):
                rows = fmt.table(j).pairs()
                tables[place] = [
                    (("turn", order[sign[1]]) if sign[0] == "turn" else sign, length) for sign, length in rows]
            classes = made(fmt, remade(fmt, tables=tables))
            self.same(classes.walk(0, 0, b_second=True), None)

    def test_point_60_other_widths(self):
        seen = 0
        for fmt in some_formats(604, 150, most=60):
            tokens = [fmt.table(j).token(word) for j in range(len(fmt)) for word in fmt.table(j)]
            if not any(token[0] == "again" and token[2] for token in tokens):
                classes = made(fmt, remade(fmt, width=fmt.width + 3))
                self.same(classes.walk(0, 0, b_second=True), None)
                seen += 1
        self.assertGreater(seen, 50)


class Values(Case):
    def test_what_are_no_controls_and_no_classes(self):
        alone = made(Format(2, 4, recents=(1, 3), tables=[AGAINS]), None)
        both = made(Format(2, 4, recents=(1, 3), tables=[AGAINS]), Format(2, 3, tables=[COPIES]))
        self.same(alone.other, None)
        for classes in (alone, both):
            for wrong in (-1, 2) + NO_INTEGERS:
                self.refused(BadState, classes.class_of, wrong)
                self.refused(BadState, classes.walk, wrong, 0)
                self.refused(BadState, classes.walk, 0, wrong)
            for wrong in (-1, classes.count(), 10 ** 30) + NO_INTEGERS:
                self.refused(BadClass, classes.members, wrong)
        self.refused(BadState, both.class_of, 1, second=True)
        self.refused(BadState, both.walk, 0, 1, b_second=True)
        self.refused(BadState, both.walk, 1, 0, a_second=True)
        self.refused(BadState, alone.class_of, 0, second=True)
        self.refused(BadState, alone.reach, second=True)
        self.refused(BadState, alone.walk, 0, 0, a_second=True)
        self.refused(BadState, alone.walk, 0, 0, b_second=True)

    def test_lists_that_were_returned_can_be_changed(self):
        fmt = Format(2, 3, tables=[turning(LETTERS, 1), turning(LETTERS, 2), COPIES])
        classes = made(fmt, None)
        self.same(classes.walk(0, 1), (["0"], "0"))
        for call in (lambda: classes.members(0), lambda: classes.walk(0, 1)[0]):
            before = call()
            call().append("x")
            self.same(call(), before)
