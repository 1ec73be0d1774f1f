"""Points 99 to 102 and 105."""

import itertools
import random

from helpers import NO_INTEGERS, Case
from leastreader.counts import begun_count, beginnings, common, least_count, shapes
from leastreader.errors import BadSize, TooLarge
from leastreader.formats import Format
from leastreader.leastmachines import least_machine
from leastreader.leasts import least_state
from leastreader.noticing import places_of
from leastreader.patterns import alike_windows, filled_pattern, pattern_of, shape_of
from pairs import classes_of, flat_pairs
from slow import COPIES, GAPS, LETTERS, STOPS, all_states, remade, slow_controls, slow_standings, some_formats
from test_controls import crowd
from test_leastmachines import JUST_800, JUST_801, small_formats, some_letters


def converse():
    """The format with the words 000 copy (1, 1), 001 letter 0, 010 letter 1, 011 copy (1, 1)."""
    rows = [(("copy", 1, 0, 1, 0), 3), (("letter", 0, 0), 3), (("letter", 1, 0), 3), (("copy", 1, 0, 1, 0), 3)]
    return Format(2, 1, tables=[rows])


def slow_entries(pattern):
    entries = [entry for _, answer, _ in pattern[1] for entry in (answer[1] if answer[0] == "told" else ())]
    return entries + list(range(-pattern[2], 0))


def fits(sequence, entries):
    values = {}
    for letter, entry in zip(sequence, entries):
        if letter != (values.setdefault(entry, letter) if entry < 0 else entry):
            return False
    return True


def slow_common(patterns, n):
    rows = [slow_entries(pattern) for pattern in patterns]
    return sum(all(fits(row, entries) for entries in rows) for row in itertools.product(range(n), repeat=len(rows[0])))


def slow_shapes(fmt):
    classes, found = classes_of(fmt), {}
    for standing in slow_standings(fmt):
        if standing[1]:
            pattern = pattern_of(classes, standing)
            row = found.setdefault(shape_of(pattern), [])
            if pattern not in row:
                row.append(pattern)
    return list(found.items())


def in_pattern(rows, depth):
    """A pattern of a standing with bits begun, of the answers to its rests."""
    return ("in", tuple((format(at, "04b"), ("told", row), 0) for at, row in enumerate(rows)), depth)


class Counting(Case):
    def test_points_99_and_102_against_the_least_machine(self):
        dice, many = random.Random(99), set()
        flat = [fmt for pair in flat_pairs(99, 60) for fmt in pair]
        for fmt in list(small_formats(99, 150)) + flat:
            if least_count(fmt) > 800:
                continue
            machine, leasts = least_machine(fmt, some_letters(dice, fmt))
            self.same(beginnings(fmt), sum(held[0] == "at" for held in leasts))
            self.same(begun_count(fmt), sum(held[0] == "in" for held in leasts))
            self.same(least_count(fmt), len(machine))
            many.add(max([len(patterns) for _, patterns in shapes(fmt)], default=0))
        self.assertTrue({0, 1, 2, 3, 4} <= many, many)

    def test_larger_formats(self):
        for fmt in some_formats(1021, 60, most=12, n=(2, 3, 4), width=(2, 4), tables=(1, 3), pairs=4):
            try:
                machine = least_machine(fmt, (0,) * fmt.width)[0]
            except TooLarge:
                self.assertGreater(least_count(fmt), 800)
            else:
                self.same(least_count(fmt), len(machine))

    def test_point_99_by_classes(self):
        for fmt in small_formats(991, 30):
            classes = classes_of(fmt)
            depths = {classes.class_of(k): classes.reach().of(k) for k in range(len(classes.one))}
            self.same(beginnings(fmt), sum(fmt.n ** depth for depth in depths.values()))
        self.same(beginnings(Format(2, 2, tables=[STOPS])), 5)
        self.same(beginnings(Format(2, 2, tables=[STOPS], restarts=True)), 8)

    def test_point_100_least_states_of_a_standing(self):
        dice = random.Random(100)
        for fmt in small_formats(100, 40):
            classes = classes_of(fmt)
            leasts = set(least_machine(fmt, some_letters(dice, fmt))[1])
            by_standing = {}
            for state in all_states(fmt, holes=False):
                by_standing.setdefault(state[:2], set()).add(least_state(classes, state))
            for standing, found in by_standing.items():
                self.same(len(found), fmt.n ** len(places_of(classes, standing)))
                self.assertTrue(found <= leasts)
            self.assertEqual(set().union(*by_standing.values()), leasts)

    def test_point_105_no_copies(self):
        found = 0
        for fmt in some_formats(1051, 80, most=8, n=(2, 3), width=(1, 3)):
            rows = [[pair for pair in fmt.table(j).pairs() if pair[0][0] not in ("copy", "again")] for j in range(len(fmt))]
            if min(len(part) for part in rows) < 2:
                continue
            plain = remade(fmt, tables=rows)
            classes = classes_of(plain)
            patterns = {pattern_of(classes, standing) for standing in slow_standings(plain)}
            self.same(least_count(plain), len(patterns))
            self.same(len(least_machine(plain, (0,) * plain.width)[0]), len(patterns))
            self.same({pattern[2] for pattern in patterns}, {0})
            found += 1
        self.assertGreater(found, 30)

    def test_0_begun_words(self):
        fmt = Format(2, 1, tables=[LETTERS])
        self.same((beginnings(fmt), begun_count(fmt), least_count(fmt), shapes(fmt)), (1, 0, 1, []))

    def test_point_102_the_converse_does_not_hold(self):
        fmt = converse()
        classes = classes_of(fmt)
        one, other = ((0, ()), "00"), ((0, ()), "01")
        self.same(alike_windows(classes, one, other), (0, None))
        held = {filled_pattern(pattern_of(classes, standing), (letter,)) for standing, letter in ((one, 1), (other, 0))}
        self.same(held, {("in", (("0", ("told", (1,)), 0), ("1", ("told", (0,)), 0)), ())})
        self.same(common([pattern_of(classes, one), pattern_of(classes, other)], 2), 1)
        self.same(begun_count(fmt), len(least_machine(fmt, (0,))[0]) - beginnings(fmt))


class Shapes(Case):
    def test_shapes_and_their_patterns(self):
        for fmt in list(small_formats(1011, 40)) + list(some_formats(1012, 30, most=12, width=(2, 4))):
            self.same(shapes(fmt), slow_shapes(fmt))

    def test_lists_that_were_returned_can_be_changed(self):
        fmt = Format(2, 3, tables=[COPIES])
        found = shapes(fmt)
        found[0][1].clear()
        found.clear()
        self.same([(len(shape[1]), len(patterns)) for shape, patterns in shapes(fmt)], [(2, 2)])
        self.same(begun_count(fmt), 5)


class Common(Case):
    def test_point_101_sequences_that_fit_all(self):
        dice, seen = random.Random(101), set()
        for _ in range(400):
            lengths = [dice.randint(1, 2) for _ in range(dice.randint(1, 3))]
            depth, n = dice.randint(0, 2), dice.choice((2, 2, 3))
            values = [-3, -2, -1] + list(range(n)) * dice.randint(0, 1)
            patterns = [
                in_pattern([tuple(dice.choice(values) for _ in range(length)) for length in lengths], depth)
                for _ in range(dice.randint(1, 4))]
            expected = slow_common(patterns, n)
            self.same(common(patterns, n), expected)
            self.same(common(tuple(patterns), n), expected)
            self.same(common(patterns[::-1], n), expected)
            self.same(common(patterns + patterns[:1], n), expected)
            seen.add((len(patterns), min(expected, 2)))
        for many in (2, 3, 4):
            self.assertTrue({(many, 0), (many, 1), (many, 2)} <= seen)
        self.assertFalse((1, 0) in seen)

    def test_point_101_by_hand(self):
        # A block of two unlike letters, by way of a place of each pattern.
        self.same(common([in_pattern([(0,), (-1,)], 0), in_pattern([(-1,), (-1,)], 0)], 2), 1)
        self.same(common([in_pattern([(0,), (1,)], 0), in_pattern([(-1,), (-1,)], 0)], 2), 0)
        self.same(common([in_pattern([(0,), (-5,), (-5,), (1,)], 0), in_pattern([(-1,), (-1,), (-2,), (-2,)], 0)], 2), 0)
        self.same(common([in_pattern([(0,)], 0), in_pattern([(1,)], 0)], 16), 0)
        # Places of different patterns are not compared.
        self.same(common([in_pattern([(-1,), (-2,)], 0), in_pattern([(-2,), (-1,)], 0)], 3), 9)
        self.same(common([in_pattern([(-1,), (-1,)], 0), in_pattern([(-1,), (-2,)], 0)], 3), 3)
        # Kept places count as entries.
        self.same(common([in_pattern([(-1,)], 1), in_pattern([(-2,)], 1)], 5), 5)
        self.same(common([in_pattern([(-1,)], 2)], 5), 25)
        self.same(common([in_pattern([(-24,) * 40, (-23,)], 0)], 16), 256)
        self.same(common([("in", (("0", ("turned",), 0), ("1", ("stopped",), 1)), 0)], 2), 1)

    def test_patterns_of_formats(self):
        dice, seen = random.Random(1013), set()
        for fmt in list(small_formats(1013, 60)) + [fmt for pair in flat_pairs(1014, 40) for fmt in pair]:
            for _, patterns in shapes(fmt):
                if fmt.n ** len(slow_entries(patterns[0])) <= 3 ** 8:
                    chosen = dice.sample(patterns, dice.randint(1, min(4, len(patterns))))
                    self.same(common(chosen, fmt.n), slow_common(chosen, fmt.n))
                    seen.add(len(chosen))
        self.assertTrue({1, 2, 3} <= seen)

    def test_sizes(self):
        patterns = [in_pattern([(-1,)], 1)]
        for wrong in NO_INTEGERS + (-1, 0, 1, 17, 10 ** 30):
            self.refused(BadSize, common, patterns, wrong)
        self.same([common(patterns, n) for n in (2, 16)], [2, 16])
        self.same(patterns, [in_pattern([(-1,)], 1)])


def many_patterns(many):
    """A format with so many different patterns of one shape: each copy's word has another begun word."""
    rows = [(("copy", 1 + at, 0, 1, 0), 6) for at in range(many)] + [(("letter", 0, 0), 6)] * many
    return Format(2, 24, tables=[[pair for pairs in zip(rows[:many], rows[many:]) for pair in pairs] + [(("letter", 1, 0), 1)]])


class Limits(Case):
    def test_10_patterns_and_11(self):
        for many in (9, 10):
            fmt = many_patterns(many)
            self.same(max(len(patterns) for _, patterns in shapes(fmt)), many)
            begun_count(fmt)
        for call in (begun_count, least_count):
            self.same(self.refused(TooLarge, call, many_patterns(11)).limit, 10)
        self.same(max(len(patterns) for _, patterns in shapes(many_patterns(11))), 11)
        self.same(beginnings(many_patterns(11)), 2 ** 11)

    def test_more_than_150_controls(self):
        fmt = crowd(last=[(("stop",), 3)])
        for call in (beginnings, shapes, begun_count, least_count):
            self.same(self.refused(TooLarge, call, fmt).limit, 150)

    def test_800_and_801_states(self):
        self.same([least_count(Format.read(lines)) for lines in (JUST_800, JUST_801)], [800, 801])
