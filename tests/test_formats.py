"""Point 46."""

import random

from helpers import AGAIN, COPIED, NO_INTEGERS, NO_SERIES, Case, some_recents, some_rows
from leastreader.errors import (
    BadFormat, BadRecents, BadRule, BadSign, BadSize, BadTable, Letterless, ReaderError, TooFull, TooLarge)
from leastreader.formats import Format
from leastreader.tables import Table

ROWS = [(("letter", 0, 1), 1), (("copy", 1, 1, 1, 0), 1)]
LINES = [
    "letters 2", "width 4", "recents 1 3", "copied push", "again swap", "restarts yes", "table 0", "1 letter 0 1",
    "2 again 0 2 1 1", "3 turn 1", "table 1", "10 stop", "1 letter 0 1"]


def some_formats(seed, count):
    """Pairs (format, arguments)."""
    dice = random.Random(seed)
    for _ in range(count):
        n, width, many, tables = dice.choice([2, 4]), dice.randint(1, 8), dice.randint(0, 4), dice.randint(1, 6)
        named = {
            "recents": some_recents(dice, width, many), "copied": dice.choice(COPIED), "again": dice.choice(AGAIN),
            "tables": [some_rows(dice, n, width, many, tables, pairs=3) for _ in range(tables)],
            "restarts": dice.choice([True, False])}
        try:
            yield Format(n, width, **named), (n, width, named)
        except ReaderError:
            continue


class Parts(Case):
    def test_point_46_parts(self):
        seen = 0
        for fmt, (n, width, named) in some_formats(46, 150):
            self.same((fmt.n, fmt.width, fmt.recents), (n, width, named["recents"]))
            self.same((fmt.copied, fmt.again_rule, fmt.restarts), (named["copied"], named["again"], named["restarts"]))
            self.same(len(fmt), len(named["tables"]))
            for number, rows in enumerate(named["tables"]):
                expected = Table(rows, n=n, width=width, many=len(fmt.recents), tables=len(fmt))
                self.assertIs(type(fmt.table(number)), Table)
                self.assertTrue(fmt.table(number) == expected)
                self.same(fmt.table(number).pairs(), tuple(rows))
            seen += 1
        self.assertGreater(seen, 80)

    def test_point_46_parts_that_are_left_out(self):
        fmt = Format(2, 3, tables=[ROWS])
        self.same((fmt.n, fmt.width, fmt.recents), (2, 3, ()))
        self.same((fmt.copied, fmt.again_rule, fmt.restarts, len(fmt)), ("front", "front", False, 1))
        self.same(Format(2, 3, tables=(tuple(ROWS),), recents=[3, 3]).recents, (3, 3))

    def test_point_46_1_and_6_tables(self):
        turns = [ROWS[:1] + [(("turn", j), 1)] for j in range(6)]
        fmt = Format(2, 3, tables=turns)
        self.same([fmt.table(j).pairs() for j in range(6)], [tuple(rows) for rows in turns])
        self.refused(BadFormat, Format, 2, 3, tables=turns + turns[:1])
        self.refused(BadFormat, Format, 2, 3, tables=[])
        # A turn leads to tables of the format alone.
        self.refused(BadSign, Format, 2, 3, tables=turns[:5] + [ROWS[:1] + [(("turn", 6), 1)]])
        self.refused(BadSign, Format, 2, 3, tables=turns[1:2])

    def test_numbers_of_tables(self):
        fmt = Format(2, 3, tables=[ROWS, ROWS])
        for wrong in (2, -1, 99) + NO_INTEGERS:
            self.refused(BadTable, fmt.table, wrong)

    def test_what_was_handed_in_can_be_changed(self):
        recents, rows = [1, 3], list(ROWS)
        tables = [rows]
        fmt = Format(2, 4, recents=recents, tables=tables)
        lines = fmt.shown()
        recents.append(2)
        rows.append((("stop",), 1))
        tables.append(ROWS)
        self.same((fmt.recents, len(fmt), fmt.table(0).pairs(), fmt.shown()), ((1, 3), 1, tuple(ROWS), lines))
        lines.clear()
        self.assertEqual(len(fmt.shown()), 9)


class Equal(Case):
    def test_formats_that_differ_in_one_part(self):
        base = {"recents": (1, 2), "copied": "front", "again": "front", "tables": [ROWS, ROWS], "restarts": False}
        fmt = Format(2, 4, **base)
        self.assertIs(fmt == Format(2, 4, **base), True)
        self.assertIs(fmt != Format(2, 4, **base), False)
        apart = [(("letter", 0, 0), 2), (("letter", 1, 0), 2), (("copy", 1, 1, 1, 0), 1)]
        turned = [(("letter", 1, 0), 2), (("letter", 0, 0), 2), (("copy", 1, 1, 1, 0), 1)]
        low = [(("copy", 1, 1, 1, 0), 1), (("letter", 0, 1), 1)]
        for part, value in (
                ("recents", (2, 1)), ("recents", (1,)), ("copied", "push"), ("copied", "keep"), ("again", "push"),
                ("again", "swap"), ("again", "keep"), ("restarts", True), ("tables", [ROWS]), ("tables", [ROWS] * 3),
                ("tables", [ROWS, apart]), ("tables", [ROWS, turned]), ("tables", [low, ROWS])):
            other = Format(2, 4, **{**base, part: value})
            self.assertIs(fmt == other, False)
            self.assertIs(other == fmt, False)
        self.assertIs(fmt == Format(2, 5, **base), False)
        three = [[(("letter", 0, 1), 1), (("letter", 2, 0), 1)]]
        four = [[(("letter", 0, 1), 1), (("letter", 2, 1), 1)]]
        self.assertIs(Format(3, 4, tables=three) == Format(4, 4, tables=four), False)
        for other in (None, fmt.shown(), 2, ROWS):
            self.assertIs(fmt == other, False)

    def test_formats_of_unlike_pairs_with_equal_tables(self):
        first = [(("letter", 0, 0), 2), (("letter", 1, 0), 2), (("stop",), 1)]
        other = [(("stop",), 1), (("letter", 0, 1), 1)]
        self.assertIs(Format(2, 4, tables=[first]) == Format(2, 4, tables=[other]), True)


class Checked(Case):
    def test_point_46_errors_in_their_order(self):
        named = {"recents": None, "copied": 0, "again": 0, "restarts": 0, "tables": None}
        for n in (1, 17) + NO_INTEGERS:
            self.refused(BadSize, Format, n, 3, **named)
        for width in (0, 25) + NO_INTEGERS:
            self.refused(BadSize, Format, 2, width, **named)
        for recents in NO_SERIES + ((0,), [4], (1,) * 5, [True]):
            self.refused(BadRecents, Format, 2, 3, **{**named, "recents": recents})
        for rule in ("swap", None, 0, "Front", ["front"]):
            self.refused(BadRule, Format, 2, 3, **{**named, "recents": (), "copied": rule})
        for rule in ("next", None, 0, "Front", ["front"]):
            self.refused(BadRule, Format, 2, 3, **{**named, "recents": (), "copied": "keep", "again": rule})
        for restarts in (0, 1, None, "yes", [], "True"):
            self.refused(BadFormat, Format, 2, 3, restarts=restarts, tables=[ROWS])
            self.refused(BadFormat, Format, 2, 3, restarts=restarts, tables=[None])
        for tables in NO_SERIES + ([], (), [None] * 7):
            self.refused(BadFormat, Format, 2, 3, tables=tables)

    def test_point_46_errors_of_tables_one_by_one(self):
        full, bad = [(("stop",), 1)] * 3, [(("letter", 2, 0), 1)] * 2
        large = [(("copy", 1, 3, 1, 3), 1)] * 2
        self.refused(BadTable, Format, 2, 8, tables=[ROWS, None, bad])
        self.refused(BadTable, Format, 2, 8, tables=[ROWS, ROWS[:1], bad])
        self.refused(BadSign, Format, 2, 8, tables=[ROWS, bad, None])
        self.same(self.refused(TooFull, Format, 2, 8, tables=(full, None)).at, 2)
        self.same(self.refused(TooLarge, Format, 2, 8, tables=(ROWS, large, bad)).limit, 120)
        self.same(self.refused(Letterless, Format, 2, 8, tables=[ROWS, full[:2], None]).letter, 0)
        # The number of recents decides which agains are signs.
        again = [[(("letter", 0, 1), 1), (("again", 1, 0, 1, 0), 1)]]
        self.refused(BadSign, Format, 2, 8, recents=(1,), tables=again)
        self.same(len(Format(2, 8, recents=(1, 1), tables=again)), 1)


class Shown(Case):
    def test_shown_lines(self):
        tables = [[(("letter", 0, 1), 1), (("again", 0, 2, 1, 1), 2), (("turn", 1), 3)], [(("stop",), 10), (("letter", 0, 1), 1)]]
        fmt = Format(2, 4, recents=[1, 3], copied="push", again="swap", restarts=True, tables=tables)
        self.same(fmt.shown(), LINES)
        self.same(Format(16, 24, tables=[[(("letter", 0, 3), 1), (("letter", 8, 3), 1)]]).shown(), [
            "letters 16", "width 24", "recents", "copied front", "again front", "restarts no", "table 0", "1 letter 0 3",
            "1 letter 8 3"])

    def test_read_and_shown(self):
        for fmt, _ in some_formats(47, 100):
            lines = fmt.shown()
            for form in (list, tuple):
                found = Format.read(form(lines))
                self.assertTrue(found == fmt)
                self.same(found.shown(), lines)

    def test_read_refuses_other_values(self):
        for wrong in NO_SERIES + (LINES[:5], [], (), LINES + [None], [1] + LINES[1:], "\n".join(LINES), [b"letters 2"]):
            self.refused(BadFormat, Format.read, wrong)

    def test_read_refuses_other_lines(self):
        self.same(Format.read(LINES).shown(), LINES)
        for at, lines in enumerate((
                ("letters 02", "letters  2", "letters 2 ", " letters 2", "letters", "letter 2", "letters 1", "letters 3",
                 "letters 17", "letters x", "Letters 2", "letters 2\n", "letters +2", "letters 1" + "0" * 5000, ""),
                ("width 0", "width 25", "width 3 ", "widths 4", "4", "width"),
                ("recents 1  3", "recents 1 5", "recents 0 1", "recent 1 3", "recents 1 3 1 1 1", "recents 1 03",
                 "recents ", "recents 1 3\n", "recents 1 3 ", "recents"),
                ("copied swap", "copied", "copied Push", "copy push", "copied push ", "copied push front"),
                ("again", "again no", "agains swap", "again  swap"),
                ("restarts", "restarts Yes", "restarts maybe", "restarts yes no", "restarts yes ", "restart yes", "restarts true"),
                ("table 1", "table", "table 00", "tables 0", "table 0 ", "1 letter 0 1", ""),
                ("1 letter 0  1", "01 letter 0 1", "1 letter 0 2", "letter 0 1", "11 letter 0 1", "0 letter 0 1", "1",
                 "1 letter 0 1 ", "1  letter 0 1", "", "a letter 0 1", "1 letter 00 1"),
                ("2 again 2 2 1 1", "2 again 0 4 1 1", "2 go", "1 stop"),
                ("3 turn 2", "3 turn", "3 turn 1 1", "-3 turn 1"),
                ("table 0", "table 2", "table", ""))):
            for line in lines:
                self.refused(BadFormat, Format.read, LINES[:at] + [line] + LINES[at + 1:])
        for cut in range(len(LINES)):
            if cut != 9:
                self.refused(BadFormat, Format.read, LINES[:cut])
        self.refused(BadFormat, Format.read, LINES + [""])
        self.refused(BadFormat, Format.read, LINES + ["table 2"])
        self.refused(BadFormat, Format.read, LINES[1:])
        self.refused(BadFormat, Format.read, LINES[:2] + LINES[3:])
        self.refused(BadFormat, Format.read, [LINES[1], LINES[0]] + LINES[2:])

    def test_arguments_are_left_as_they_were(self):
        lines = list(LINES)
        Format.read(lines)
        self.same(lines, LINES)


class Sizes(Case):
    def test_point_0_5_six_tables_of_40_pairs_and_120_words(self):
        rows = [(("letter", 0, 3), 6), (("letter", 8, 3), 6), (("copy", 1, 3, 1, 3), 10)] + [
            (("again", k % 4, k % 24, k + 1, 0), 10) for k in range(31)] + [(("turn", j), 10) for j in range(6)]
        rows[3] = (("copy", 17, 1, 40, 0), 10)
        rows[4] = (("letter", 0, 1), 10)
        rows[5] = (("again", 3, 23, 39, 1), 9)
        self.assertEqual(len(rows), 40)
        tables = [rows] * 6
        fmt = Format(16, 24, recents=(24, 1, 1, 3), tables=tables, restarts=True)
        self.same([len(fmt.table(j)) for j in range(6)], [120] * 6)
        self.assertTrue(Format.read(fmt.shown()) == fmt)
