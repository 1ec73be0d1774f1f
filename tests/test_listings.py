"""The lines of listings, character by character."""

import random

from helpers import Case
from leastreader.desks import Desk
from leastreader.errors import TooLarge
from leastreader.formats import Format
from leastreader.listings import format_lines, heads_lines, machine_lines, table_lines
from leastreader.machines import Machine
from leastreader.states import shown_answer
from leastreader.tokens import shown_token
from losing import small_formats
from machinery import menu_of, some_machine_rows
from pairs import classes_of
from slow import COPIES, END, STOPS, slow_controls, slow_table, some_deeds, some_formats
from test_controls import crowd


def slow_row(row):
    return " ".join("?" if entry == 99 else str(entry) for entry in row) or "-"


class Tables(Case):
    def test_by_hand(self):
        rows = [(("letter", 0, 1), 2), (("copy", 10, 1, 3, 0), 1), (("again", 1, 4, 40, 0), 4), (("turn", 1), 5), (("stop",), 10)]
        fmt = Format(2, 12, recents=(1, 12), tables=[rows, COPIES])
        self.same(table_lines(fmt.table(0)), [
            "00               copy 10 3", "01               copy 11 3", "100              letter 0", "101              letter 1",
            "1100             again 1 4 40", "11010            turn 1", "1101100000       stop"])
        self.same(table_lines(fmt.table(1)), [
            "00               letter 0", "01               letter 1", "10               copy 1 1", "11               copy 2 1"])

    def test_the_longest_word_of_all(self):
        rows = [(("letter", 0, 0), 1), (("letter", 1, 0), 2), (("copy", 1, 3, 1, 3), 10)]
        lines = table_lines(Format(2, 8, tables=[rows]).table(0))
        self.same((lines[2], lines[-1]), ("1100000000000000 copy 1 1", "1100000000111111 copy 8 8"))

    def test_many_tables(self):
        for fmt in some_formats(1, 40):
            for j in range(len(fmt)):
                expected = [word + " " * (17 - len(word)) + shown_token(token) for word, token in slow_table(fmt, j).items()]
                self.same(table_lines(fmt.table(j)), expected)


class Formats(Case):
    def test_by_hand(self):
        self.same(format_lines(Format(2, 2, tables=[STOPS])), [
            "  0 table 0 recents - class 0 reach 2", "  1 ended class 1 reach 0"])
        rows = [(("letter", 0, 0), 2), (("letter", 1, 0), 2), (("again", 0, 0, 1, 0), 2), (("again", 1, 0, 1, 0), 2)]
        self.same(format_lines(Format(2, 12, recents=(1, 12), tables=[rows])), [
            "  0 table 0 recents 1 12 class 0 reach 12", "  1 table 0 recents 12 1 class 1 reach 12"])

    def test_many_formats(self):
        for fmt in list(small_formats(2, 40)) + list(some_formats(3, 40, most=120)):
            classes, lines = classes_of(fmt), []
            for number, control in enumerate(slow_controls(fmt)):
                what = "ended" if control == END else f"table {control[0]} recents {slow_row(control[1])}"
                lines.append(f"{number:>3} {what} class {classes.class_of(number)} reach {classes.reach().of(number)}")
            self.same(format_lines(fmt), lines)

    def test_150_controls_and_151(self):
        lines = format_lines(crowd())
        self.same((len(lines), lines[149][:12]), (150, "149 table 5 "))
        self.same(self.refused(TooLarge, format_lines, crowd(last=[(("stop",), 3)])).limit, 150)


class Heads(Case):
    def test_by_hand(self):
        desk = Desk(Format(2, 2, tables=[STOPS], restarts=True), window=(0, 99))
        self.same(heads_lines(desk), [])
        desk.keep(99)
        desk.take("1")
        desk.keep(5)
        desk.take("1")
        desk.keep(10)
        self.same(heads_lines(desk), [" 5 in 0 1: 0 ?", "10 at 1: 0 ?", "99 at 0: 0 ?"])
        desk = Desk(Format(2, 2, tables=[[(("letter", 0, 1), 1), (("turn", 0), 1)]]))
        desk.keep(0)
        desk.take("0")
        desk.keep(1)
        self.same(heads_lines(desk), [" 0 at 0: -", " 1 in 0 1: -"])

    def test_many_heads(self):
        dice = random.Random(4)
        for fmt in list(small_formats(5, 40)) + list(some_formats(6, 30, n=(2, 16))):
            desk, lines = Desk(fmt, window=(0,) * fmt.width), []
            for name in sorted(dice.sample(range(100), 5)):
                desk.feed(some_deeds(dice, 3))
                desk.keep(name)
                held = desk.least()
                rests = "" if held[0] == "at" else " " + " ".join(rest for rest, _, _ in held[1])
                what = f"at {held[1]}" if held[0] == "at" else "in" + rests
                lines.append(f"{name:>2} {what}: {slow_row(held[2])}")
            self.same(heads_lines(desk), lines)
            self.same(desk.names(), sorted(desk.names()))


class Machines(Case):
    def test_by_hand(self):
        rows = [
            [(("refused",), 1), (("told", (15, 0)), 0), (("restarted",), 1)], [(("turned",), 0), (("stopped",), 1), (("taken",), 0)]]
        self.same(machine_lines(Machine(rows, restarts=True)), [
            "  0 | 0 refused 1 | 1 told 15 0 0 | restart restarted 1", "  1 | 0 turned 0 | 1 stopped 1 | restart taken 0"])

    def test_many_machines(self):
        dice = random.Random(7)
        for many in (1, 9, 120):
            for restarts in (False, True):
                rows = some_machine_rows(dice, many, restarts, 5)
                expected = [
                    f"{at:>3}" + "".join(f" | {deed} {shown_answer(a)} {b}" for deed, (a, b) in zip(menu_of(restarts), row))
                    for at, row in enumerate(rows)]
                found = machine_lines(Machine(rows, restarts=restarts))
                self.same(found, expected)
                found.clear()
