"""Points 110 to 112 and 120."""

import random

from helpers import Case
from leastreader.errors import BadLot, BadState, TooLarge
from leastreader.formats import Format
from leastreader.joins import closed_pairs, joining, joining_two, never_joined
from leastreader.leastmachines import least_machine
from leastreader.lots import classes_of_lot, lost_lot, moved_lot
from leastreader.patterns import pattern_of
from losing import (
    NO_LOTS, chains, rows_of_bits, slow_behind, slow_lost, small_formats, some_lot, standings_600)
from pairs import classes_of
from slow import COPIES, GAPS, LETTERS, STOPS, remade, some_formats
from test_controls import crowd
from test_streams import NO_STANDINGS

START = ((0, ()), "")


def small(seed, count):
    """Formats with few reached standings."""
    return [fmt for fmt in small_formats(seed, count) if len(slow_lost(fmt)) <= 20]


def slow_moves(fmt):
    """For each standing of the lost lot those behind the bits 0 and 1, and its pattern."""
    classes, lot = classes_of(fmt), slow_lost(fmt)
    moves = {standing: tuple(slow_behind(fmt, standing, bit) for bit in "01") for standing in lot}
    return moves, {standing: pattern_of(classes, standing) for standing in lot}


def slow_joining(moves, patterns, lot):
    """The first bits that join the lot, or None: all lots that bits lead to, layer by layer."""
    layer, seen = {"": frozenset(lot)}, set()
    while layer:
        following = {}
        for bits in sorted(layer):
            now = layer[bits]
            if len({patterns[standing] for standing in now}) == 1:
                return bits
            seen.add(now)
            for side in (0, 1):
                behind = frozenset(moves[standing][side] for standing in now)
                if behind not in seen and behind not in following.values():
                    following[bits + str(side)] = behind
        layer = following
    return None


def slow_pairs(moves, one, other):
    found = [(one, other)]
    for a, b in found:
        for side in (0, 1):
            pair = (moves[a][side], moves[b][side])
            if pair not in found:
                found.append(pair)
    return found


class Two(Case):
    def test_point_110_the_first_bits_that_join_two(self):
        dice, lengths = random.Random(110), set()
        for fmt in small(110, 80) + list(some_formats(1101, 30, most=10)):
            moves, patterns = slow_moves(fmt)
            count = len(set(patterns.values()))
            for _ in range(12):
                one, other = dice.choice(list(moves)), dice.choice(list(moves))
                expected = slow_joining(moves, patterns, [one, other])
                self.same(joining_two(fmt, one, list(other)), expected)
                if expected is not None:
                    self.assertLessEqual(len(expected), count * (count - 1) // 2)
                    self.same(closed_pairs(fmt, one, other), None)
                    for bits in rows_of_bits(min(len(expected), 5)):
                        joined = len(classes_of_lot(classes_of(fmt), moved_lot(fmt, [one, other], bits))) == 1
                        self.assertFalse(joined and (len(bits), bits) < (len(expected), expected))
                lengths.add(-1 if expected is None else len(expected))
        self.assertTrue({-1, 0, 1, 2, 3, 4, 5} <= lengths)

    def test_point_110_closed_pairs(self):
        dice, sizes = random.Random(1102), set()
        for fmt in small(1102, 80):
            moves, patterns = slow_moves(fmt)
            for _ in range(12):
                one, other = dice.choice(list(moves)), dice.choice(list(moves))
                found = closed_pairs(fmt, list(one), other)
                if slow_joining(moves, patterns, [one, other]) is not None:
                    self.same(found, None)
                    continue
                self.same(found, slow_pairs(moves, one, other))
                self.same(len(found), len(set(found)))
                for a, b in found:
                    self.assertNotEqual(patterns[a], patterns[b])
                    self.assertTrue({(moves[a][side], moves[b][side]) for side in (0, 1)} <= set(found))
                sizes.add(len(found))
                turned = [(b, a) for a, b in slow_pairs(moves, other, one)]
                self.assertEqual(set(turned), set(found))
                found.clear()
                self.assertGreater(len(closed_pairs(fmt, one, other)), 0)
        self.assertTrue(4 in sizes and len(sizes) > 3)

    def test_by_hand(self):
        fmt = Format(2, 3, tables=[COPIES])
        zero, one = ((0, ()), "0"), ((0, ()), "1")
        self.same(joining_two(fmt, zero, one), "0")
        self.same(joining_two(fmt, one, one), "")
        self.same(closed_pairs(fmt, one, one), None)
        self.same(closed_pairs(fmt, START, one), [(START, one), (zero, START), (one, START), (START, zero)])
        self.same(closed_pairs(fmt, one, START), [(one, START), (START, zero), (START, one), (zero, START)])

    def test_what_is_no_standing(self):
        fmt = Format(2, 3, tables=[COPIES])
        for call in (joining_two, closed_pairs):
            for wrong in NO_STANDINGS:
                self.refused(BadState, call, fmt, wrong, START)
                self.refused(BadState, call, fmt, START, wrong)


class All(Case):
    def test_point_110_the_first_bits_that_join_a_lot(self):
        dice, lengths = random.Random(1103), set()
        for fmt in small(1103, 60):
            moves, patterns = slow_moves(fmt)
            if len(set(patterns.values())) > 14:
                continue
            for _ in range(4):
                lot = some_lot(dice, fmt)
                expected = slow_joining(moves, patterns, lot)
                for given in (lot, tuple(lot[::-1]), lot + lot, [list(standing) for standing in lot]):
                    self.same(joining(fmt, given), expected)
                lengths.add((len(lot) > 2, -1 if expected is None else min(len(expected), 3)))
        self.assertTrue({(many, length) for many in (False, True) for length in (-1, 1, 2, 3)} | {(False, 0)} <= lengths)

    def test_point_111_the_lost_lot(self):
        found = set()
        for fmt in small(111, 120):
            moves, patterns = slow_moves(fmt)
            count = len(set(patterns.values()))
            if count > 14:
                continue
            bits = joining(fmt, lost_lot(fmt))
            self.same(bits, slow_joining(moves, patterns, list(moves)))
            self.assertEqual(bits is not None, never_joined(fmt) is None)
            if bits is not None:
                self.assertLessEqual(len(bits), (count - 1) * count * (count - 1) // 2)
                self.same(len(classes_of_lot(classes_of(fmt), moved_lot(fmt, lost_lot(fmt), bits))), 1)
            found.add(bits is None)
        self.same(sorted(found), [False, True])

    def test_point_111_the_first_two_that_are_never_joined(self):
        found = set()
        for fmt in small(1111, 60) + list(some_formats(1112, 12, most=6)):
            moves, patterns = slow_moves(fmt)
            lot = slow_lost(fmt)
            expected = next((
                (a, b) for at, a in enumerate(lot) for b in lot[at + 1:] if slow_joining(moves, patterns, [a, b]) is None), None)
            self.same(never_joined(fmt), expected)
            found.add(None if expected is None else expected[0] == lot[0])
        self.same(found, {None, True, False})

    def test_point_112_ended(self):
        found = set()
        for fmt in small(112, 120):
            moves, patterns = slow_moves(fmt)
            ended = ((-1, ()), "")
            if ended not in moves or len(set(patterns.values())) > 14:
                continue
            bits = joining(fmt, lost_lot(fmt))
            if bits is not None:
                self.same(moved_lot(fmt, lost_lot(fmt), bits), [ended])
            leading = {ended}
            while any(set(moves[standing]) & leading and standing not in leading for standing in moves):
                leading |= {standing for standing in moves if set(moves[standing]) & leading}
            self.assertEqual(bits is not None, leading == set(moves))
            found.add(bits is not None)
        self.same(found, {True, False})
        self.same(joining(Format(2, 2, tables=[STOPS]), lost_lot(Format(2, 2, tables=[STOPS]))), "111")

    def test_point_120_the_least_machine_synchronizes(self):
        found = set()
        for fmt in small(120, 60):
            machine, leasts = least_machine(fmt, (0,) * fmt.width)
            classes = classes_of(fmt)
            for bits in rows_of_bits(6):
                behind = moved_lot(fmt, lost_lot(fmt), bits)
                if any(begun for _, begun in behind):
                    continue
                states = set(range(len(machine)))
                for bit in bits:
                    states = {machine.rows()[state][int(bit)][1] for state in states}
                marks = {leasts[state][:2] for state in states}
                joined = len(marks) == 1 and next(iter(marks))[0] == "at"
                self.assertEqual(len(classes_of_lot(classes, behind)) == 1, joined)
                found.add((joined, len(behind)))
        self.assertEqual({joined for joined, _ in found}, {True, False})


class Limits(Case):
    def test_14_classes_and_15(self):
        fmt = chains(last=4)
        self.same(len(classes_of_lot(classes_of(fmt), lost_lot(fmt))), 14)
        moves, patterns = slow_moves(fmt)
        self.same(joining(fmt, lost_lot(fmt)), slow_joining(moves, patterns, list(moves)))
        self.same(joining(fmt, lost_lot(fmt)[:3]), slow_joining(moves, patterns, lost_lot(fmt)[:3]))
        fmt = chains(last=5)
        self.same(len(classes_of_lot(classes_of(fmt), lost_lot(fmt))), 15)
        for lot in (lost_lot(fmt), lost_lot(fmt)[:1]):
            self.same(self.refused(TooLarge, joining, fmt, lot).limit, 14)
        for wrong in (None, [], [None], [START, ((0, ()), "2")]):
            self.refused(BadLot, joining, fmt, wrong)
        self.same(never_joined(fmt), never_joined(remade(fmt, restarts=True)))
        self.same(joining_two(fmt, START, START), "")

    def test_600_standings_and_601(self):
        fmt = standings_600()
        self.same(joining_two(fmt, ((0, (1, 1)), ""), ((0, (5, 5)), "1")), "0110")
        self.refused(BadState, joining_two, fmt, START, START)
        self.same(self.refused(TooLarge, joining, fmt, lost_lot(fmt)).limit, 14)
        larger = standings_600(ended=True)
        for call, args in ((joining_two, (0, 0)), (closed_pairs, (0, 0)), (joining, (0,)), (never_joined, ())):
            self.same(self.refused(TooLarge, call, larger, *args).limit, 600)
            self.same(self.refused(TooLarge, call, crowd(last=[(("stop",), 3)]), *args).limit, 150)

    def test_wrong_lots(self):
        fmt = Format(2, 3, tables=[GAPS])
        for wrong in NO_LOTS:
            self.refused(BadLot, joining, fmt, wrong)

    def test_arguments_are_left_as_they_were(self):
        fmt, lot = Format(2, 1, tables=[LETTERS]), [[(0, ()), ""], [(0, ()), ""]]
        self.same(joining(fmt, lot), "")
        self.same(joining_two(fmt, lot[0], lot[1]), "")
        self.same(lot, [[(0, ()), ""], [(0, ()), ""]])
