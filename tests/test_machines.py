"""Points 91, 92 and 98."""

import random

from helpers import NO_INTEGERS, NO_SERIES, Case
from leastreader.errors import BadDeed, BadMachine, TooLarge
from leastreader.machines import Machine
from machinery import (
    ANSWERS, as_rows, menu_of, sequences, slow_answers, slow_reached, slow_renumbered, some_machine_rows)
from test_states import NO_FUTURES

PAIR = (("taken",), 0)
NO_ANSWERS = (
    (), ("lost",), ("told",), ("told", ()), ("told", (0,) * 41), ("told", (16,)), ("told", (-1,)), ("told", (99,)),
    ("told", (True,)), ("told", (0.0,)), ("told", [0]), ("told", "0"), ("told", (0,), 0), ("told", None), ("taken", 0),
    ("Taken",), ("taken", (0,)), ["taken"], ["told", (0,)], "taken", None, 0, (0,), (["taken"],), (b"taken",), (None,),
    ("restart",), ("refused", ()), ("0",), {"taken": 0}, object())


def some_machines(seed, count, most=6):
    """Pairs (menu, rows), always the same ones for one seed."""
    dice = random.Random(seed)
    for _ in range(count):
        restarts = dice.choice((True, False))
        yield menu_of(restarts), some_machine_rows(dice, dice.randint(1, most), restarts, dice.randint(1, 4))


def machine_of(menu, rows):
    return Machine(rows, restarts=len(menu) == 3)


class Making(Case):
    def test_point_91_parts(self):
        for menu, rows in some_machines(91, 60):
            machine = machine_of(menu, rows)
            self.same(machine.menu, menu)
            self.same(machine.restarts, len(menu) == 3)
            self.same(len(machine), len(rows))
            self.same(machine.rows(), tuple(tuple(row) for row in rows))
            forms = (tuple(rows), [tuple([list(pair) for pair in row]) for row in rows])
            for given in forms:
                self.assertEqual(machine_of(menu, given), machine)
                self.same(machine_of(menu, given).rows(), machine.rows())

    def test_point_91_every_answer_to_any_deed(self):
        for first in ANSWERS:
            for last in ANSWERS:
                machine = Machine([[(first, 0), (last, 0), (("told", tuple(range(16))), 0)]], restarts=True)
                self.same(machine.run(["restart", "1", "0"]), [("told", tuple(range(16))), last, first])
        for many in (1, 2, 39, 40):
            self.same(Machine([[(("told", (15,) * many), 0), PAIR]]).run("0"), [("told", (15,) * many)])

    def test_1_to_800_states(self):
        self.same(len(Machine([(PAIR, PAIR)])), 1)
        rows = [[(("told", (at % 16,)), (at + 1) % 800), (("taken",), at)] for at in range(800)]
        machine = Machine(rows)
        self.same((len(machine), machine.reached()), (800, list(range(800))))
        self.same(machine.state_behind("0" * 799 + "1"), 799)
        self.same(self.refused(TooLarge, Machine, [(PAIR, PAIR)] * 801).limit, 800)

    def test_wrong_rows(self):
        for wrong in NO_SERIES + ((), [], "", None):
            self.refused(BadMachine, Machine, wrong)
        for wrong in NO_SERIES + NO_INTEGERS + ((), [PAIR], [PAIR] * 3, PAIR):
            self.refused(BadMachine, Machine, [wrong])
            self.refused(BadMachine, Machine, [[PAIR, PAIR], wrong])
        self.refused(BadMachine, Machine, [[PAIR, PAIR]], restarts=True)
        self.refused(BadMachine, Machine, [[PAIR, PAIR, PAIR]])
        for wrong in NO_SERIES + NO_INTEGERS + ((), (("taken",),), (("taken",), 0, 0), (0, ("taken",))):
            self.refused(BadMachine, Machine, [[PAIR, wrong]])
        for wrong in NO_INTEGERS + (-1, 1, 10 ** 30, 0.0):
            self.refused(BadMachine, Machine, [[PAIR, (("taken",), wrong)]])
        for wrong in NO_ANSWERS:
            self.refused(BadMachine, Machine, [[(wrong, 0), PAIR]])
            self.refused(BadMachine, Machine, [[PAIR, PAIR, [wrong, 0]]], restarts=True)
        for wrong in (None, 0, 1, "", "yes", (), [True]):
            self.refused(BadMachine, Machine, [[PAIR, PAIR]], restarts=wrong)
            self.refused(BadMachine, Machine, [[PAIR, PAIR, PAIR]], restarts=wrong)

    def test_too_many_rows_ahead_of_wrong_ones(self):
        for wrong in (None, [], [PAIR], [PAIR, (("told", ()), 0)], [PAIR, (("taken",), 900)]):
            self.same(self.refused(TooLarge, Machine, [wrong] * 801).limit, 800)
            self.refused(BadMachine, Machine, [wrong] * 800)
        self.refused(TooLarge, Machine, [None] * 801, restarts=None)
        self.refused(BadMachine, Machine, {at: [PAIR, PAIR] for at in range(801)})

    def test_equal_machines(self):
        machine = Machine([[PAIR, (("told", (1,)), 1)], [PAIR, PAIR]])
        self.assertTrue(machine == Machine([[PAIR, (("told", (1,)), 1)], [PAIR, PAIR]]))
        for other in (
                Machine([[PAIR, (("told", (2,)), 1)], [PAIR, PAIR]]), Machine([[PAIR, (("told", (1,)), 0)], [PAIR, PAIR]]),
                Machine([[PAIR, (("told", (1,)), 1)], [PAIR, PAIR], [PAIR, PAIR]]),
                Machine([[PAIR, (("told", (1,)), 1), PAIR], [PAIR, PAIR, PAIR]], restarts=True)):
            self.assertFalse(machine == other)
            self.assertTrue(machine != other)
        for other in NO_SERIES + NO_INTEGERS + (machine.rows(), machine.menu):
            self.assertIs(machine == other, False)

    def test_a_machine_keeps_copies(self):
        row = [[("taken",), 0], [("refused",), 0]]
        rows = [row]
        machine = Machine(rows)
        row[0][1], row[1][0] = 5, None
        del row[1]
        rows.append(None)
        self.same(machine.rows(), (((("taken",), 0), (("refused",), 0)),))
        answers = machine.run("01")
        answers.clear()
        machine.reached().append(7)
        self.same((machine.run("01"), machine.reached()), ([("taken",), ("refused",)], [0]))


class Running(Case):
    def test_point_92_answers_and_states_behind(self):
        for menu, rows in some_machines(92, 30, 4):
            machine = machine_of(menu, rows)
            for deeds in sequences(menu, 4):
                answers, state = slow_answers(rows, menu, deeds)
                for given in (list(deeds), deeds) + ("".join(deeds),) * ("restart" not in deeds):
                    self.same(machine.run(given), answers)
                    self.same(machine.state_behind(given), state)

    def test_wrong_deeds(self):
        for restarts in (False, True):
            machine = Machine([[PAIR] * (2 + restarts)], restarts=restarts)
            wrong = NO_FUTURES + (["loss"], ["0", "loss"], ("0", "2"), "02", [["0"]], [0], ["01"], [""])
            for deeds in wrong + (["restart"], ("0", "restart", "1")) * (not restarts):
                self.refused(BadDeed, machine.run, deeds)
                self.refused(BadDeed, machine.state_behind, deeds)

    def test_arguments_are_left_as_they_were(self):
        deeds = ["0", "restart", "1"]
        machine = Machine([[PAIR] * 3], restarts=True)
        machine.run(deeds)
        machine.state_behind(deeds)
        self.same(deeds, ["0", "restart", "1"])


class Order(Case):
    def test_point_92_reached_and_renumbered(self):
        unlike = 0
        for menu, rows in some_machines(921, 200, 9):
            machine = machine_of(menu, rows)
            self.same(machine.reached(), sorted(slow_reached(rows)))
            found = machine.renumbered()
            self.assertIsInstance(found, Machine)
            self.same(as_rows(found), slow_renumbered(rows))
            self.same(found.menu, menu)
            self.assertEqual(found.renumbered(), found)
            unlike += found != machine and len(found) == len(machine)
            self.same(as_rows(machine), rows)
        self.assertGreater(unlike, 10)

    def test_point_92_the_order_of_the_menu(self):
        row = [(("taken",), 3), (("taken",), 1), (("taken",), 2)]
        machine = Machine([row, row, row, row, row], restarts=True)
        self.same(machine.reached(), [0, 1, 2, 3])
        order = [(("taken",), 1), (("taken",), 2), (("taken",), 3)]
        self.same(as_rows(machine.renumbered()), [order] * 4)
        self.same(Machine([[PAIR, PAIR], [PAIR, PAIR]]).reached(), [0])

    def test_point_98_doubled(self):
        for menu, rows in some_machines(98, 60, 5):
            machine, many = machine_of(menu, rows), len(rows)
            found = machine.doubled()
            self.same(found.menu, menu)
            expected = [[
                (answer, behind + many if deed == "0" else behind) for deed, (answer, behind) in zip(menu, row)]
                for row in rows]
            self.same(as_rows(found), expected * 2)
            for deeds in sequences(menu, 4):
                self.same(found.run(deeds), machine.run(deeds))

    def test_point_98_too_large(self):
        self.same(len(Machine([(PAIR, PAIR)] * 400).doubled()), 800)
        for many in (401, 800):
            self.same(self.refused(TooLarge, Machine([(PAIR, PAIR)] * many).doubled).limit, 800)
