"""Points 33, 36, 37, 40 and 41."""

import random
from fractions import Fraction

from helpers import NO_INTEGERS, NO_SERIES, Case, slow_words, some_sized_rows
from leastreader.errors import BadBits, BadSign, BadSize, BadTable, BadToken, Letterless, TooFull, TooLarge
from leastreader.bitrows import split_bits
from leastreader.signs import spread
from leastreader.tables import Table
from leastreader.words import free_words

SIZES = {"n": 2, "width": 3, "many": 0, "tables": 1}
ROWS = [(("letter", 0, 0), 2), (("letter", 1, 0), 2), (("copy", 1, 0, 1, 0), 3)]
# 64 + 32 + 16 + 4 + 2 + 2 = 120 words.
LARGE = [
    (("copy", 1, 3, 1, 3), 3), (("copy", 1, 3, 9, 2), 3), (("copy", 1, 2, 20, 2), 3), (("copy", 1, 2, 30, 0), 3),
    (("letter", 0, 1), 3), (("copy", 1, 0, 39, 1), 3)]


def words_below(begun, words):
    return [word[len(begun):] for word in words if word.startswith(begun)]


class Words(Case):
    def test_point_33_words_and_tokens(self):
        for sizes, rows in some_sized_rows(33, 150):
            table, words = Table(rows, **sizes), slow_words(rows)
            self.same(table.words(), list(words))
            self.same((list(table), len(table)), (list(words), len(words)))
            self.same([table.token(word) for word in words], list(words.values()))
            self.same(table.pairs(), tuple(rows))
            begun = sorted({word[:k] for word in words for k in range(len(word))})
            self.same(table.begun_words(), begun)
            for part in begun:
                self.same(table.rests(part), words_below(part, words))
            gaps = sorted(u + bit for u in begun for bit in "01" if u + bit not in begun and u + bit not in words)
            self.same(table.gaps(), gaps)
            self.assertIs(table.full, not gaps)

    def test_point_33_full_tables_and_tables_with_gaps(self):
        full = [Table(rows, **sizes).full for sizes, rows in some_sized_rows(34, 100)]
        self.assertGreater(min(full.count(True), full.count(False)), 10)

    def test_point_33_members(self):
        table = Table(ROWS, **SIZES)
        self.same([bits in table for bits in ("00", "01", "100", "", "0", "10", "11", "000")], [True] * 3 + [False] * 5)
        for value in NO_SERIES + (("00",), ["00"], [], {}, 0, None, b"00"):
            if value != "01":
                self.assertIs(value in table, False)
                self.refused(BadBits, table.token, value)
        for value in NO_SERIES + (("",), [""], [], {}, 0, None, b""):
            self.refused(BadBits, table.rests, value)
        for bits in ("", "0", "10", "11", "000", "2"):
            self.refused(BadBits, table.token, bits)
        for bits in ("00", "11", "101", "000", "2", "100"):
            self.refused(BadBits, table.rests, bits)

    def test_point_36_neighbours(self):
        for sizes, rows in some_sized_rows(36, 100):
            words = Table(rows, **sizes).words()
            for one, other in zip(words, words[1:]):
                self.assertFalse(other.startswith(one))
            for free, (sign, _) in zip(free_words([length for _, length in rows]), rows):
                own = [free + extra for extra, _ in spread(sign)]
                at = words.index(own[0])
                self.same(words[at:at + len(own)], own)
                self.assertIn(len(own), (1, 2, 4, 8, 16, 32, 64))

    def test_point_37_sums(self):
        def whole(strings):
            return sum((Fraction(1, 2 ** len(bits)) for bits in strings), Fraction(0))

        for sizes, rows in some_sized_rows(37, 100):
            table = Table(rows, **sizes)
            pairs = sum(Fraction(1, 2 ** length) for _, length in rows)
            self.assertEqual(whole(table), pairs)
            self.assertEqual(whole(table) + whole(table.gaps()), 1)
            self.assertEqual(table.full, pairs == 1)
            self.assertEqual(len(table.begun_words()), len(table) + len(table.gaps()) - 1)
            for begun in table.begun_words():
                broken = words_below(begun, table.gaps())
                self.assertEqual(whole(table.rests(begun)) + whole(broken), 1)
                self.assertTrue(len(table.rests(begun)) != 1 or broken)


class Equal(Case):
    def test_tables_for_unlike_sizes(self):
        table = Table(ROWS, **SIZES)
        wide = Table(tuple(ROWS), n=2, width=24, many=4, tables=6)
        self.assertTrue(table == wide and wide == table)
        self.assertIs(table != wide, False)

    def test_other_pairs_with_the_same_words(self):
        apart = [(("letter", 0, 0), 3), (("letter", 1, 0), 3), (("copy", 1, 0, 1, 1), 1)]
        whole = [(("letter", 0, 1), 2), (("copy", 1, 0, 1, 1), 1)]
        self.assertIs(Table(apart, **SIZES) == Table(whole, **SIZES), True)
        turned = [(("letter", 1, 0), 3), (("letter", 0, 0), 3), (("copy", 1, 0, 1, 1), 1)]
        self.assertIs(Table(apart, **SIZES) == Table(turned, **SIZES), False)
        self.assertIs(Table(apart, **SIZES) == Table(ROWS, **SIZES), False)
        self.assertIs(Table(apart[:2] + [(("stop",), 1)], **SIZES) == Table(apart, **SIZES), False)
        for other in (None, ROWS, 3, Table(ROWS, **SIZES).words()):
            self.assertIs(Table(ROWS, **SIZES) == other, False)


class FirstWords(Case):
    def test_point_40_first_words(self):
        for sizes, rows in some_sized_rows(40, 150):
            table, words = Table(rows, **sizes), slow_words(rows)
            for token in set(words.values()):
                own = [word for word in words if words[word] == token]
                self.same(table.first_word(token), min(own, key=lambda word: (len(word), word)))

    def test_point_40_the_shortest_and_then_the_least(self):
        rows = [
            (("letter", 0, 0), 2), (("letter", 1, 0), 3), (("letter", 1, 0), 1), (("letter", 0, 0), 4),
            (("letter", 0, 0), 4)]
        table = Table(rows, **SIZES)
        self.same((table.words(), table.first_word(("letter", 0))), (["0", "10", "110", "1110", "1111"], "10"))
        rows = [(("letter", 0, 1), 1), (("letter", 0, 1), 1)]
        self.same([Table(rows, **SIZES).first_word(("letter", a)) for a in (0, 1)], ["00", "01"])

    def test_point_40_tokens_without_a_word(self):
        table = Table(ROWS, n=2, width=3, many=1, tables=1)
        for token in (("turn", 0), ("turn", 5), ("stop",), ("copy", 1, 2), ("copy", 3, 40), ("again", 0, 2, 1)):
            self.assertIsNone(table.first_word(token))

    def test_no_tokens(self):
        table = Table(ROWS, n=2, width=3, many=1, tables=1)
        for wrong in NO_SERIES + (
                ("letter", 2), ("copy", 4, 1), ("copy", 1, 41), ("again", 1, 0, 1), ("again", 0, 3, 1), ("turn", 6),
                ["stop"], ["letter", 0], ("letter", True), ("letter", [0]), (), ("letter", 0, 0)):
            self.refused(BadToken, table.first_word, wrong)

    def test_point_40_no_other_words_have_fewer_bits(self):
        dice = random.Random(41)
        for sizes, rows in some_sized_rows(41, 60):
            table, words = Table(rows, **sizes), slow_words(rows)
            tokens = [dice.choice(list(words.values())) for _ in range(dice.randint(0, 6))]
            bits = "".join(table.first_word(token) for token in tokens)
            split = split_bits(table, bits)
            self.same([table.token(word) for word in split[0]], tokens)
            self.same(split[1:], ("", None))
            fewest = sum(min(len(word) for word in words if words[word] == token) for token in tokens)
            self.assertEqual(len(bits), fewest)


class Checked(Case):
    def test_point_41_sizes_come_first(self):
        ranges = {"n": (1, 17), "width": (0, 25), "many": (-1, 5), "tables": (0, 7)}
        for name, outside in ranges.items():
            for wrong in outside + NO_INTEGERS:
                for rows in (ROWS, None):
                    self.refused(BadSize, Table, rows, **{**SIZES, name: wrong})

    def test_point_41_no_tables(self):
        bad = (("letter", 9, 0), 2)
        for wrong in NO_SERIES + (
                [], ROWS[:1], (), [bad] * 41, [None, bad], ROWS + [list(ROWS[0])], ROWS + [ROWS[0] + (1,)],
                ROWS + [(("stop",),)], ROWS + [()]):
            self.refused(BadTable, Table, wrong, **SIZES)
        for length in (0, 11, -1) + NO_INTEGERS:
            self.refused(BadTable, Table, ROWS + [(("stop",), length)], **SIZES)
            self.refused(BadTable, Table, [bad, (None, 1), (("stop",), length)], **SIZES)

    def test_point_41_signs_behind_pairs_and_ahead_of_words(self):
        for sign in (("letter", 2, 0), ("copy", 4, 0, 1, 0), ("again", 0, 0, 1, 0), ("turn", 1), None, ["stop"], ([],), 7):
            self.refused(BadSign, Table, [(sign, 1), ROWS[0]], **SIZES)
            self.refused(BadSign, Table, [(("stop",), 1)] * 3 + [(sign, 1)], **SIZES)

    def test_point_41_too_full_ahead_of_too_large_and_letterless(self):
        error = self.refused(TooFull, Table, [(("stop",), 1), (("stop",), 2), (("stop",), 1)], **SIZES)
        self.same(error.at, 1)
        wide = {"n": 2, "width": 24, "many": 0, "tables": 1}
        error = self.refused(TooFull, Table, [(("copy", 1, 3, 1, 3), 1)] * 3, **wide)
        self.same(error.at, 2)

    def test_point_41_120_and_121_words(self):
        wide = {"n": 2, "width": 24, "many": 0, "tables": 1}
        table = Table(LARGE, **wide)
        self.same((len(table), len(table.begun_words())), (120, 120 + len(table.gaps()) - 1))
        error = self.refused(TooLarge, Table, LARGE + [(("stop",), 3)], **wide)
        self.same(error.limit, 120)
        # Too large ahead of letterless.
        error = self.refused(TooLarge, Table, [(("copy", 1, 3, 1, 3), 1)] * 2, **wide)
        self.same(error.limit, 120)

    def test_point_41_letterless(self):
        self.same(self.refused(Letterless, Table, [(("stop",), 1)] * 2, **SIZES).letter, 0)
        self.same(self.refused(Letterless, Table, [(("stop",), 1), (("letter", 0, 0), 1)], **SIZES).letter, 1)
        rows = [(("letter", 0, 2), 1), (("letter", 5, 0), 2)]
        sizes = {"n": 7, "width": 1, "many": 0, "tables": 1}
        self.same(self.refused(Letterless, Table, rows, **sizes).letter, 4)

    def test_point_41_2_and_40_pairs_and_lengths_1_and_10(self):
        table = Table([(("letter", 0, 0), 1), (("letter", 1, 0), 1)], **SIZES)
        self.same((table.words(), table.gaps(), table.full), (["0", "1"], [], True))
        table = Table([(("letter", 0, 0), 1), (("letter", 1, 0), 10)], **SIZES)
        self.same((table.words(), table.full, len(table.gaps())), (["0", "1000000000"], False, 9))
        rows = [(("letter", k % 2, 0), 10) for k in range(40)]
        table = Table(rows, **SIZES)
        self.same((len(table), table.words()[-1]), (40, format(39, "010b")))
        self.refused(BadTable, Table, rows + rows[:1], **SIZES)

    def test_longest_words(self):
        rows = [(("letter", 0, 1), 1), (("copy", 17, 3, 33, 3), 10)]
        table = Table(rows, n=2, width=24, many=4, tables=6)
        self.same(max(table, key=len), "1000000000" + "000000")
        self.same(table.token("1000000000" + "111111"), ("copy", 24, 40))


class Kept(Case):
    def test_what_was_handed_in_can_be_changed(self):
        rows = list(ROWS)
        table = Table(rows, **SIZES)
        rows.append((("stop",), 3))
        rows[0] = None
        self.same((table.pairs(), table.words()), (tuple(ROWS), ["00", "01", "100"]))

    def test_returned_lists_can_be_changed(self):
        table = Table(ROWS, **SIZES)
        calls = (table.words, table.begun_words, table.gaps, lambda: table.rests(""), lambda: list(table))
        for call in calls:
            found = call()
            expected = list(found)
            found.clear()
            self.same(call(), expected)
