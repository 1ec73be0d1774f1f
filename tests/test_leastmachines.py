"""Points 93, 95 and 96."""

import random

from helpers import NO_INTEGERS, NO_SERIES, Case
from leastreader.errors import BadMachine, BadWindow, TooLarge
from leastreader.formats import Format
from leastreader.leastmachines import folded, least_machine, parting_row
from leastreader.leasts import least_state, state_with
from leastreader.machines import Machine
from leastreader.nexts import next_least
from leastreader.rightness import erring_row
from machinery import (
    as_rows, grown, menu_of, reader_rows, sequences, slow_answers, slow_folded, slow_marks, slow_parting, slow_renumbered)
from pairs import classes_of
from slow import COPIES, GAPS, LETTERS, STOPS, remade, slow_controls, some_formats
from test_controls import crowd
from test_machines import PAIR, machine_of, some_machines


# Formats whose least machines have 800 and 801 states.
JUST_800 = (
    "letters 4", "width 2", "recents 1 2", "copied push", "again front", "restarts yes", "table 0", "2 copy 1 1 13 2",
    "4 again 1 1 31 1", "2 letter 0 2", "3 turn 0")
JUST_801 = (
    "letters 3", "width 6", "recents 6 5", "copied push", "again swap", "restarts yes", "table 0", "2 letter 2 0",
    "2 letter 0 1", "1 copy 3 1 14 2", "table 1", "1 again 1 2 19 2", "2 letter 0 1", "2 letter 2 0")


def small_formats(seed, count):
    yield from (Format(2, 1, tables=[LETTERS]), Format(2, 2, tables=[STOPS], restarts=True), Format(2, 3, tables=[GAPS]))
    yield from (Format(2, 2, tables=[COPIES], restarts=True), Format(2, 3, tables=[STOPS]))
    yield from some_formats(seed, count, most=4, n=(2, 3), width=(1, 3), tables=(1, 2), pairs=2)


def some_letters(dice, fmt):
    return tuple(dice.randrange(fmt.n) for _ in range(fmt.width))


class Parting(Case):
    def test_point_93_the_first_deeds_that_part(self):
        lengths = set()
        for menu, rows in some_machines(93, 200, 6):
            machine = machine_of(menu, rows)
            for a in range(len(rows)):
                for b in range(len(rows)):
                    expected = slow_parting(menu, rows, a, rows, b, len(rows) - 1)
                    self.same(parting_row(machine, a, b), expected)
                    lengths.add(None if expected is None else len(expected))
        self.assertTrue({None, 1, 2, 3} <= lengths)

    def test_point_93_fewer_deeds_than_states(self):
        rows = [[(("taken",), at + 1), (("taken",), 0)] for at in range(9)] + [[(("refused",), 9), (("taken",), 0)]]
        machine = Machine(rows)
        self.same(parting_row(machine, 0, 1), ["0"] * 9)
        self.same(parting_row(machine, 1, 0), ["0"] * 9)
        self.same([parting_row(machine, at, at) for at in range(10)], [None] * 10)

    def test_states_that_are_not_reached(self):
        machine = Machine([[PAIR, PAIR], [(("refused",), 0), PAIR], [PAIR, (("refused",), 0)], [PAIR, PAIR]])
        self.same(parting_row(machine, 1, 2), ["0"])
        self.same(parting_row(machine, 0, 2), ["1"])
        self.same(parting_row(machine, 0, 3), None)

    def test_what_is_no_state(self):
        machine = Machine([[PAIR, PAIR], [PAIR, PAIR]])
        for wrong in NO_INTEGERS + NO_SERIES[2:] + (-1, 2, 10 ** 30):
            self.refused(BadMachine, parting_row, machine, wrong, 0)
            self.refused(BadMachine, parting_row, machine, 0, wrong)


class Folding(Case):
    def test_point_93_folded(self):
        fewer = 0
        for menu, rows in some_machines(931, 600, 9):
            machine = machine_of(menu, rows)
            found = folded(machine)
            self.assertIsInstance(found, Machine)
            self.same(as_rows(found), slow_folded(rows))
            self.same(found.menu, menu)
            self.assertEqual(folded(found), found)
            for deeds in sequences(menu, 4):
                self.same(found.run(deeds), slow_answers(rows, menu, deeds)[0])
            self.assertEqual(len(set(slow_marks(as_rows(found)))), len(found))
            self.same(as_rows(machine), rows)
            fewer += 1 < len(found) < len(machine.reached())
        self.assertGreater(fewer, 3)

    def test_point_98_doubled_and_folded(self):
        for menu, rows in some_machines(981, 60, 6):
            machine = machine_of(menu, rows)
            self.assertEqual(folded(machine.doubled()), folded(machine))


class Least(Case):
    def test_point_95_states_answers_and_next_states(self):
        dice, seen = random.Random(95), set()
        for fmt in small_formats(95, 80):
            window = some_letters(dice, fmt)
            states, rows = reader_rows(fmt, window)
            machine, leasts = least_machine(fmt, list(window))
            self.same(machine.menu, menu_of(fmt.restarts))
            self.same(as_rows(machine), slow_folded(rows))
            self.same((len(leasts), len(set(leasts))), (len(machine), len(machine)))
            classes = classes_of(fmt)
            self.same(leasts[0], least_state(classes, states[0]))
            self.same(set(leasts), {least_state(classes, state) for state in states})
            for held, row in zip(leasts, machine.rows()):
                for deed, (answer, behind) in zip(machine.menu, row):
                    self.same(next_least(classes, held, deed), (answer, leasts[behind]))
                    seen.add(answer[0])
            self.same(as_rows(machine), slow_renumbered(as_rows(machine)))
        self.assertEqual(seen, {"refused", "taken", "told", "turned", "stopped", "restarted"})

    def test_point_96_right_parted_and_no_fewer(self):
        dice, grew = random.Random(96), 0
        for fmt in small_formats(96, 40):
            window = some_letters(dice, fmt)
            machine = least_machine(fmt, window)[0]
            self.same(erring_row(fmt, window, machine), None)
            rows = reader_rows(fmt, window)[1]
            for deeds in sequences(machine.menu, 5):
                self.same(machine.run(deeds), slow_answers(rows, machine.menu, deeds)[0])
            for a in range(min(12, len(machine))):
                for b in range(a):
                    self.assertIsNotNone(parting_row(machine, a, b))
            if len(machine) <= 100:
                other = grown(dice, machine)
                self.assertGreater(len(other), len(machine))
                self.same(erring_row(fmt, window, other), None)
                self.assertEqual(folded(other), machine)
                grew += 1
            order = [0] + dice.sample(range(1, len(machine)), len(machine) - 1)
            moved = [[(answer, order.index(behind)) for answer, behind in machine.rows()[state]] for state in order]
            self.assertEqual(Machine(moved, restarts=machine.restarts).renumbered(), machine)
        self.assertGreater(grew, 20)

    def test_point_95_least_states_of_the_format_alone(self):
        fmt = Format(2, 2, tables=[STOPS])
        machine, leasts = least_machine(fmt, (0, 1))
        self.same(leasts[0], ("at", 0, (0, 1)))
        self.assertIn(("at", 1, ()), leasts)
        for held in leasts:
            self.same(least_state(classes_of(fmt), state_with(classes_of(fmt), held)), held)
        ended = leasts.index(("at", 1, ()))
        self.same(machine.rows()[ended], ((("refused",), ended), (("refused",), ended)))

    def test_lists_that_were_returned_can_be_changed(self):
        fmt, window = Format(2, 3, tables=[COPIES]), [0, 1, 0]
        leasts = least_machine(fmt, window)[1]
        leasts.clear()
        self.same(len(least_machine(fmt, window)[1]), 9)
        self.same(window, [0, 1, 0])

    def test_wrong_windows(self):
        fmt = Format(2, 3, tables=[COPIES])
        for wrong in NO_SERIES + ((0, 1), (0, 1, 0, 1), (0, 1, 2), (0, 1, 99), (99, 99, 99), (0, 1, True), (0, 1, -1), [0, 1, None]):
            self.refused(BadWindow, least_machine, fmt, wrong)

    def test_more_than_800_states(self):
        fmt = Format(2, 10, tables=[[(("letter", 0, 1), 1), (("copy", 10, 0, 1, 0), 1)]])
        self.same(self.refused(TooLarge, least_machine, fmt, (0,) * 10).limit, 800)
        self.refused(BadWindow, least_machine, fmt, (0,) * 9)
        self.refused(BadWindow, least_machine, fmt, (0,) * 9 + (99,))

    def test_more_than_150_controls_behind_wrong_windows(self):
        fmt = crowd(last=[(("stop",), 3)])
        self.same(self.refused(TooLarge, least_machine, fmt, (0,) * fmt.width).limit, 150)
        for wrong in (None, (0,), (0,) * (fmt.width - 1) + (99,)):
            self.refused(BadWindow, least_machine, fmt, wrong)

    def test_just_800_states_and_one_more(self):
        fmt = Format.read(JUST_800)
        machine, leasts = least_machine(fmt, (3, 0))
        self.same((len(machine), len(set(leasts))), (800, 800))
        self.same(as_rows(machine), slow_folded(reader_rows(fmt, (3, 0))[1]))
        self.same(self.refused(TooLarge, least_machine, Format.read(JUST_801), (0,) * 6).limit, 800)
