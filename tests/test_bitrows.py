"""Points 1, 38 and 39."""

import itertools
import random

from helpers import NO_SERIES, Case, some_rows, some_sized_rows
from leastreader.bitrows import check_bits, parting_bits, split_bits
from leastreader.errors import BadBits
from leastreader.tables import Table

SIZES = {"n": 2, "width": 3, "many": 0, "tables": 1}
ROWS = [(("letter", 0, 0), 2), (("letter", 1, 0), 2), (("copy", 1, 0, 1, 0), 3)]
NO_BITS = tuple(value for value in NO_SERIES if value != "01") + (
    "2", "01 ", " 01", "0\n", "0a1", "O1", b"01", ("0", "1"), ["0", "1"], [], (), 1, 0)


def all_bits(most):
    for length in range(most + 1):
        for bits in itertools.product("01", repeat=length):
            yield "".join(bits)


class Bits(Case):
    def test_point_1_bits(self):
        for bits in ("", "0", "1", "01" * 1000):
            self.same(check_bits(bits), bits)
        for wrong in NO_BITS:
            self.refused(BadBits, check_bits, wrong)
            self.refused(BadBits, split_bits, Table(ROWS, **SIZES), wrong)


class Split(Case):
    def slow(self, table, bits):
        """Point 38: the one way to split."""
        words, begun, gaps, ways = set(table.words()), set(table.begun_words()), set(table.gaps()), []

        def go(found, rest):
            if rest in begun:
                ways.append((found, rest, None))
            for k in range(1, len(rest) + 1):
                if rest[:k] in gaps:
                    ways.append((found, rest[:k], len(bits) - len(rest) + k - 1))
                if rest[:k] in words:
                    go(found + [rest[:k]], rest[k:])

        go([], bits)
        self.assertEqual(len(ways), 1)
        return ways[0]

    def test_point_38_the_one_way_to_split(self):
        seen = [0, 0]
        for sizes, rows in some_sized_rows(38, 40):
            table, dice = Table(rows, **sizes), random.Random(38)
            for bits in list(all_bits(4)) + ["".join(dice.choice("01") for _ in range(30)) for _ in range(5)]:
                found = split_bits(table, bits)
                self.same(found, self.slow(table, bits))
                seen[found[2] is None] += 1
        self.assertGreater(min(seen), 30)

    def test_point_38_edges(self):
        table = Table(ROWS, **SIZES)
        self.same(split_bits(table, ""), ([], "", None))
        self.same(split_bits(table, "00"), (["00"], "", None))
        self.same(split_bits(table, "0010"), (["00"], "10", None))
        self.same(split_bits(table, "11"), ([], "11", 1))
        self.same(split_bits(table, "0011"), (["00"], "11", 3))
        self.same(split_bits(table, "001101"), (["00"], "11", 3))
        self.same(split_bits(table, "101"), ([], "101", 2))

    def test_returned_lists_can_be_changed(self):
        table = Table(ROWS, **SIZES)
        split_bits(table, "0001")[0].clear()
        self.same(split_bits(table, "0001"), (["00", "01"], "", None))

    def test_point_0_5_rows_of_2000_bits(self):
        for sizes, rows in some_sized_rows(39, 10):
            table = Table(rows, **sizes)
            bits = ("".join(table) * 100)[:2000]
            words, begun, bad = split_bits(table, bits)
            self.same(("".join(words) + begun, bad), (bits, None))


class Parting(Case):
    def slow(self, one, other):
        """The first bits that are not treated alike, and all of whose proper prefixes are begun words of both."""
        def treated(table, bits):
            return table.token(bits) if bits in table else bits in table.begun_words()

        front = [""]
        while front:
            behind = []
            for bits in front:
                if treated(one, bits) != treated(other, bits):
                    return bits
                if treated(one, bits) is True:
                    behind += [bits + "0", bits + "1"]
            front = behind
        return None

    def test_point_39_first_bits(self):
        dice, seen = random.Random(39), [0, 0]
        for sizes, rows in some_sized_rows(42, 150):
            one = Table(rows, **sizes)
            changed = list(rows)
            at = dice.randrange(len(rows))
            changed[at] = (changed[at][0], min(10, changed[at][1] + dice.choice([0, 1])))
            other = Table(changed, **{**sizes, "width": 24, "many": 4, "tables": 6})
            for a, b in ((one, other), (other, one)):
                found = parting_bits(a, b)
                self.same(found, self.slow(a, b))
                self.assertEqual(found is None, a == b)
                seen[found is None] += 1
        self.assertGreater(min(seen), 30)

    def test_point_39_tables_for_unlike_sizes(self):
        dice = random.Random(43)
        for n, other_n in ((2, 3), (2, 4), (4, 8)):
            for _ in range(20):
                one = Table(some_rows(dice, 2, 3, 0, 1), n=2, width=3, many=0, tables=1)
                other = Table(some_rows(dice, 2, 5, 2, 6), n=2, width=5, many=2, tables=6)
                self.same(parting_bits(one, other), self.slow(one, other))

    def test_point_39_the_same_splits(self):
        dice = random.Random(44)
        for _ in range(60):
            one = Table(some_rows(dice, 2, 2, 0, 1, pairs=2), n=2, width=2, many=0, tables=1)
            other = Table(some_rows(dice, 2, 2, 0, 1, pairs=2), n=2, width=2, many=0, tables=1)
            longest = max(len(word) for word in list(one) + list(other) + one.gaps() + other.gaps())
            if longest > 7:
                continue
            alike = True
            for bits in all_bits(longest):
                a, b = split_bits(one, bits), split_bits(other, bits)
                tokens = [[table.token(word) for word in split[0]] for table, split in ((one, a), (other, b))]
                alike = alike and a[0] == b[0] and a[2] == b[2] and tokens[0] == tokens[1]
            self.assertEqual(alike, one == other)
            self.assertEqual(alike, parting_bits(one, other) is None)

    def test_point_39_edges(self):
        table = Table(ROWS, **SIZES)
        self.assertIsNone(parting_bits(table, table))
        turned = Table([ROWS[1], ROWS[0], ROWS[2]], **SIZES)
        self.same(parting_bits(table, turned), "00")
        longer = Table(ROWS[:2] + [(("copy", 1, 0, 1, 0), 4)], **SIZES)
        self.same(parting_bits(table, longer), "100")
        wider = Table(ROWS[:2] + [(("copy", 1, 0, 1, 0), 2)], **SIZES)
        self.same(parting_bits(table, wider), "10")
        more = Table(ROWS + [(("stop",), 3)], **SIZES)
        self.same(parting_bits(table, more), "101")
