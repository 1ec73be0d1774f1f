"""Point 53."""

from helpers import NO_INTEGERS, Case
from leastreader.classes import Classes
from leastreader.controls import Controls
from leastreader.covers import Covers
from leastreader.errors import BadState, ReaderError
from leastreader.formats import Format
from slow import COPIES, END, GAPS, LETTERS, STOPS, lacks_at_once, remade, slow_links, slow_walk, some_formats, taken_walk
from test_classes import some_pairs
from test_controls import turning


def with_more(fmt):
    """The format with one more word in its first table that has a gap; None if there is none."""
    for number in range(len(fmt)):
        rows = fmt.table(number).pairs()
        gaps = [gap for gap in fmt.table(number).gaps() if len(gap) >= max(length for _, length in rows)]
        for length in sorted({len(gap) for gap in gaps}):
            tables = [fmt.table(j).pairs() for j in range(len(fmt))]
            tables[number] = rows + ((("copy", 1, 0, 1, 0), length),)
            try:
                return remade(fmt, tables=tables)
            except ReaderError:
                continue
    return None


def pairs_to_cover(seed, count):
    for one, other in some_pairs(seed, count):
        yield one, other or one
        more = with_more(one)
        if more is not None and len(Controls(more)) < 12:
            yield one, more
            yield more, one
            yield one, remade(more, restarts=True)


class Covered(Case):
    def test_point_53_covers_and_walks_as_short_as_possible(self):
        lengths, none, covered = set(), 0, 0
        for one, other in pairs_to_cover(53, 150):
            covers = Covers(Controls(one), Controls(other))
            for a, x in enumerate(Controls(one)):
                for b, y in enumerate(Controls(other)):
                    expected = slow_walk(one, x, other, y, lacks_at_once)
                    found = covers.uncovered(a, b)
                    self.assertIs(covers.covered(a, b), expected is None)
                    covered += expected is None and len(Controls(one)) > 1
                    if expected is None:
                        self.same(found, None)
                        continue
                    steps, word = found
                    self.assertIs(type(steps), list)
                    self.same(len(steps), expected)
                    tokens, on = taken_walk(one, x, steps)
                    met, last = taken_walk(other, y, steps)
                    self.same(tokens, met)
                    self.same(word, self.least_lacking(one, on, other, last))
                    self.assertTrue(word is not None or one.restarts and not other.restarts)
                    lengths.add(expected)
                    none += word is None
        self.assertTrue({0, 1} <= lengths)
        self.assertGreater(none, 20)
        self.assertGreater(covered, 300)

    def least_lacking(self, one, x, other, y):
        last = slow_links(other, y)
        for word, (plain, _) in sorted(slow_links(one, x).items()):
            if word not in last or last[word][0] != plain:
                return word
        return None

    def test_point_53_covered_by_one_another_and_full_tables(self):
        strict, full_seen = 0, 0
        for one, other in pairs_to_cover(531, 120):
            there, back = Covers(Controls(one), Controls(other)), Covers(Controls(other), Controls(one))
            classes = Classes(Controls(one), Controls(other))
            full = all(one.table(j).full for j in range(len(one))) and one.restarts == other.restarts
            for a, x in enumerate(Controls(one)):
                for b in range(len(Controls(other))):
                    same = classes.class_of(a) == classes.class_of(b, second=True)
                    self.assertEqual(there.covered(a, b) and back.covered(b, a), same)
                    if full and x != END:
                        self.assertEqual(there.covered(a, b), same)
                        full_seen += 1
                    strict += there.covered(a, b) and not same
        self.assertGreater(strict, 100)
        self.assertGreater(full_seen, 100)

    def test_point_53_long_walks(self):
        tables = [turning(LETTERS, j + 1) for j in range(5)]
        one, other = [Format(2, 3, tables=tables + [last]) for last in (STOPS, STOPS[:3])]
        there, back = Covers(Controls(one), Controls(other)), Covers(Controls(other), Controls(one))
        for at in range(6):
            self.same(there.uncovered(at, at), (["0"] * (5 - at), "11"))
            self.same(back.uncovered(at, at), None)
        self.same(there.uncovered(1, 0), (["0"] * 4, "00"))

    def test_by_hand(self):
        stops, letters = Format(2, 3, tables=[STOPS]), Format(2, 3, tables=[LETTERS])
        covers = Covers(Controls(stops), Controls(stops))
        # ENDED, without words, is covered by each control where restarts are not allowed.
        self.same([covers.covered(a, b) for a in (0, 1) for b in (0, 1)], [True, False, True, True])
        self.same(covers.uncovered(0, 1), ([], "00"))
        covers = Covers(Controls(stops), Controls(letters))
        self.same((covers.uncovered(0, 0), covers.uncovered(1, 0)), (([], "00"), None))
        allowed = remade(stops, restarts=True)
        self.same(Covers(Controls(allowed), Controls(stops)).uncovered(1, 0), ([], None))
        self.same(Covers(Controls(stops), Controls(allowed)).uncovered(0, 0), None)
        # With restarts, ENDED has the start behind it.
        other = remade(allowed, tables=[LETTERS])
        self.same(Covers(Controls(allowed), Controls(other)).uncovered(1, 0), (["restart"], "00"))
        # A word that the gaps leave open may be anything.
        more = remade(Format(2, 3, tables=[GAPS]), tables=[GAPS + [(("stop",), 5)]])
        self.same(Covers(Controls(Format(2, 3, tables=[GAPS])), Controls(more)).uncovered(0, 0), None)
        self.same(Covers(Controls(more), Controls(Format(2, 3, tables=[GAPS]))).uncovered(0, 0), ([], "10100"))


class Values(Case):
    def test_what_are_no_numbers(self):
        covers = Covers(Controls(Format(2, 3, tables=[STOPS])), Controls(Format(2, 3, tables=[COPIES])))
        for call in (covers.covered, covers.uncovered):
            for wrong in (-1, 2) + NO_INTEGERS:
                self.refused(BadState, call, wrong, 0)
            for wrong in (-1, 1) + NO_INTEGERS:
                self.refused(BadState, call, 0, wrong)

    def test_lists_that_were_returned_can_be_changed(self):
        for one, other in pairs_to_cover(532, 20):
            covers = Covers(Controls(one), Controls(other))
            found = covers.uncovered(0, 0)
            if found is not None:
                before = list(found[0])
                found[0].append("x")
                self.same(covers.uncovered(0, 0)[0], before)
