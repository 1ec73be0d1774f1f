"""Points 94, 96, 97, 104 and 105."""

import random

from helpers import NO_SERIES, Case
from leastreader.classes import Classes
from leastreader.controls import Controls
from leastreader.covers import Covers
from leastreader.errors import BadMachine, BadWindow, TooLarge
from leastreader.formats import Format
from leastreader.leastmachines import folded, least_machine
from leastreader.leasts import least_state
from leastreader.machines import Machine
from leastreader.rightness import erring_row, states_map
from leastreader.streams import each_stream
from machinery import (
    ANSWERS, as_rows, grown, menu_of, reader_rows, sequences, slow_answers, slow_parting, some_machine_rows, with_answer)
from pairs import classes_of, small_pairs
from slow import COPIES, LETTERS, STOPS, remade, slow_deeds, slow_reach
from test_controls import crowd
from test_leastmachines import JUST_800, JUST_801, small_formats, some_letters
from test_machines import PAIR


class Right(Case):
    def test_points_94_and_96_the_first_deeds_that_err(self):
        dice, lengths = random.Random(94), []
        for fmt in small_formats(94, 60):
            window = some_letters(dice, fmt)
            right = least_machine(fmt, window)[0]
            rows = reader_rows(fmt, window)[1]
            for _ in range(6):
                state, at = dice.randrange(len(right)), dice.randrange(len(right.menu))
                wrong = with_answer(right, state, at, dice.choice(ANSWERS))
                found = erring_row(fmt, window, wrong)
                if found is not None and len(found) <= 7:
                    self.same(found, slow_parting(right.menu, as_rows(wrong), 0, rows, 0, len(found)))
                elif found is None:
                    self.assertEqual(wrong, right)
                else:
                    self.check_errs(wrong, right, found)
                lengths.append(0 if found is None else len(found))
        self.assertGreater(sum(2 <= length <= 7 for length in lengths), 30)

    def check_errs(self, machine, right, deeds):
        answers, expected = machine.run(deeds), right.run(deeds)
        self.same(answers[:-1], expected[:-1])
        self.assertNotEqual(answers[-1], expected[-1])
        self.assertLess(len(deeds), len(machine) + len(right))

    def test_other_machines(self):
        dice, seen = random.Random(961), set()
        for fmt in small_formats(961, 30):
            window = some_letters(dice, fmt)
            right = least_machine(fmt, window)[0]
            rows = reader_rows(fmt, window)[1]
            for _ in range(5):
                machine = Machine(some_machine_rows(dice, 4, fmt.restarts, 4), restarts=fmt.restarts)
                found = erring_row(fmt, window, machine)
                self.same(found, slow_parting(right.menu, as_rows(machine), 0, rows, 0, len(found)))
                self.same(states_map(fmt, window, machine), None)
                seen.add(len(found))
        self.assertIn(1, seen)

    def test_a_right_machine_over_another_window(self):
        fmt = Format(2, 3, tables=[COPIES])
        machine = least_machine(fmt, (0, 0, 1))[0]
        self.same(erring_row(fmt, (1, 0, 1), machine), None)
        self.same(erring_row(fmt, (0, 1, 1), machine), ["1", "1"])
        self.same(erring_row(fmt, (0, 1, 0), machine), ["1", "0"])
        self.same(states_map(fmt, (0, 1, 1), machine), None)

    def test_point_97_the_map(self):
        dice = random.Random(97)
        for fmt in small_formats(97, 40):
            window = some_letters(dice, fmt)
            machine, leasts = least_machine(fmt, window)
            self.same(states_map(fmt, window, machine), dict(enumerate(leasts)))
            if len(machine) > 60:
                continue
            other = grown(dice, machine)
            found = states_map(fmt, window, other)
            self.same(list(found), other.reached())
            self.same(set(found.values()) - set(leasts), set())
            self.same(len(set(found.values())), len(leasts))
            classes = classes_of(fmt)
            for _ in range(10):
                deeds = [dice.choice(machine.menu) for _ in range(dice.randint(0, 20))]
                behind = slow_deeds(fmt, ((0, fmt.recents), "", window), deeds)[1]
                self.same(found[other.state_behind(deeds)], least_state(classes, behind))
            found.clear()
            self.same(len(states_map(fmt, window, other)), len(other.reached()))

    def test_point_97_one_answer_replaced(self):
        dice, unreached = random.Random(971), 0
        for fmt in small_formats(971, 25):
            window = some_letters(dice, fmt)
            machine = least_machine(fmt, window)[0]
            if len(machine) > 40:
                continue
            other = grown(dice, machine)
            for state in range(len(other)):
                at = dice.randrange(len(other.menu))
                wrong = with_answer(other, state, at, dice.choice([a for a in ANSWERS if a != other.rows()[state][at][0]]))
                reached = state in other.reached()
                self.assertEqual(states_map(fmt, window, wrong) is None, reached)
                self.assertEqual(erring_row(fmt, window, wrong) is None, not reached)
                unreached += not reached
        self.assertGreater(unreached, 10)

    def test_point_97_one_next_state_replaced(self):
        dice, maps = random.Random(972), set()
        for fmt in small_formats(972, 25):
            window = some_letters(dice, fmt)
            machine = least_machine(fmt, window)[0]
            for _ in range(10):
                rows = as_rows(machine)
                state, at = dice.randrange(len(rows)), dice.randrange(len(machine.menu))
                rows[state][at] = (rows[state][at][0], dice.randrange(len(rows)))
                other = Machine(rows, restarts=fmt.restarts)
                right = folded(other) == machine
                self.assertEqual(states_map(fmt, window, other) is not None, right)
                self.assertEqual(erring_row(fmt, window, other) is None, right)
                maps.add(right)
        self.same(sorted(maps), [False, True])

    def test_a_machine_that_errs_only_behind_many_deeds(self):
        fmt = Format(2, 1, tables=[LETTERS])
        rows = [[(("told", (0,)), at + 1), (("told", (1,)), 0)] for at in range(799)] + [[PAIR, (("told", (1,)), 0)]]
        self.same(erring_row(fmt, (0,), Machine(rows)), ["0"] * 800)
        self.same(states_map(fmt, (0,), Machine(rows)), None)


class Wrong(Case):
    def test_errors_in_their_order(self):
        fmt = Format(2, 3, tables=[COPIES], restarts=True)
        machine = Machine([[PAIR, PAIR]])
        for call in (erring_row, states_map):
            for wrong in NO_SERIES + ((0, 1), (0, 1, 99), (0, 1, 2)):
                self.refused(BadWindow, call, fmt, wrong, machine)
            self.refused(BadMachine, call, fmt, (0, 1, 0), machine)
            self.refused(BadMachine, call, remade(fmt, restarts=False), (0, 1, 0), Machine([[PAIR] * 3], restarts=True))
            large, larger = Format.read(JUST_801), crowd(last=[(("stop",), 3)])
            self.same(self.refused(TooLarge, call, large, (0,) * 6, machine).limit, 800)
            self.refused(BadWindow, call, large, (0,) * 7, machine)
            self.same(self.refused(TooLarge, call, larger, (0,) * 5, Machine([[PAIR] * 3], restarts=True)).limit, 150)
            self.refused(BadWindow, call, larger, (0,) * 4, machine)

    def test_arguments_are_left_as_they_were(self):
        fmt, window = Format(2, 3, tables=[COPIES]), [0, 1, 0]
        machine = least_machine(fmt, window)[0]
        rows = machine.rows()
        erring_row(fmt, window, machine)
        states_map(fmt, window, machine)
        self.same((window, machine.rows()), ([0, 1, 0], rows))

    def test_machines_of_800_states(self):
        fmt = Format.read(JUST_800)
        machine, leasts = least_machine(fmt, (1, 2))
        self.same(erring_row(fmt, (1, 2), machine), None)
        self.same(states_map(fmt, (1, 2), machine), dict(enumerate(leasts)))


class TwoFormats(Case):
    def test_point_104_starts_of_one_class(self):
        dice, met, unlike = random.Random(104), 0, 0
        for one, other in small_pairs(104, 120):
            classes = classes_of(one, other)
            if classes.class_of(0) != classes.class_of(0, second=True):
                continue
            marks = [{classes.class_of(k, second=second) for k in range(len(part))} for second, part in (
                (False, classes.one), (True, classes.other))]
            self.same(marks[0], marks[1])
            depth = classes.reach().of(0)
            self.same(depth, classes.reach(second=True).of(0))
            window = some_letters(dice, one)
            last = some_letters(dice, other)[:other.width - depth] + window[one.width - depth:]
            machine = least_machine(one, window)[0]
            self.assertEqual(least_machine(other, last)[0], machine)
            for state in (0, len(machine) - 1):
                wrong = with_answer(machine, state, 0, dice.choice(ANSWERS))
                self.assertEqual(erring_row(one, window, wrong), erring_row(other, last, wrong))
            met += 1
            unlike += one != other
        self.assertGreater(unlike, 5)
        self.assertGreater(met, 20)

    def test_point_105_covered_starts(self):
        dice, met = random.Random(105), 0
        fixed = [
            (Format(2, 2, tables=[[(("letter", 0, 1), 2), (("copy", 2, 0, 1, 0), 2)]]), Format(2, 2, tables=[[
                (("letter", 0, 1), 2), (("copy", 2, 0, 1, 0), 2), (("stop",), 2)]], restarts=True))]
        for one, other in fixed + list(small_pairs(105, 100)):
            if not Covers(Controls(one), Controls(other)).covered(0, 0):
                continue
            depth = slow_reach(one, (0, one.recents))[0]
            window = some_letters(dice, one)
            last = some_letters(dice, other)
            last = last[:other.width - depth] + window[one.width - depth:]
            machine = least_machine(other, last)[0]
            standing = ((0, one.recents), "")
            for bits in each_stream(one, standing, 7):
                self.same(machine.run(bits), slow_deeds(one, standing + (window,), bits)[0])
            if one.restarts:
                for deeds in sequences(menu_of(True), 4):
                    answers = slow_deeds(one, standing + (window,), deeds)[0]
                    if ("refused",) not in answers:
                        self.same(machine.run(list(deeds)), answers)
            met += one != other
        self.assertGreater(met, 5)

    def test_point_103_restarts_allowed(self):
        dice = random.Random(103)
        for fmt in small_formats(103, 40):
            one, other = remade(fmt, restarts=False), remade(fmt, restarts=True)
            first, last = Classes(Controls(one)), Classes(Controls(other))
            self.same(list(first.one), list(last.one))
            window = some_letters(dice, fmt)
            for number in range(len(first.one)):
                self.same(first.class_of(number), last.class_of(number))
                self.same(last.reach().of(number), max(first.reach().of(number), first.reach().of(0)))
            counts = [len(least_machine(part, window)[0]) for part in (one, other)]
            self.assertGreaterEqual(counts[1], counts[0])
        self.assertEqual(len(least_machine(Format(2, 2, tables=[STOPS]), (0, 1))[0]), 11)
