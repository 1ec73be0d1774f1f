"""Listings: tables, formats, heads and machines as lines."""

from leastreader.classes import classes_of
from leastreader.controls import ENDED
from leastreader.letters import HOLE
from leastreader.states import shown_answer
from leastreader.tokens import shown_token


def shown_row(row):
    """The entries with one space between; a hole is ?, and a row without entries is -."""
    if len(row) == 0:
        return "-"
    return " ".join(["?" if entry == HOLE else str(entry) for entry in row])


def table_lines(table):
    """One line for each word: the word and its token."""
    return [f"{word:<16} {shown_token(table.token(word))}" for word in table]


def format_lines(fmt):
    """One line for each reached control: what it is, its class and its reach."""
    classes = classes_of(fmt)
    lines = []
    for number, control in enumerate(classes.one):
        name = "ended" if control == ENDED else f"table {control[0]} recents {shown_row(control[1])}"
        lines.append(f"{number:>3} {name} class {classes.class_of(number)} reach {classes.reach().of(number)}")
    return lines


def heads_lines(desk):
    """One line for each head: its name, its class or its rests, and the letters that it keeps."""
    lines = []
    for name in desk.names():
        held = desk.head(name).held
        what = f"at {held[1]}" if held[0] == "at" else " ".join(["in"] + [row[0] for row in held[1]])
        lines.append(f"{name:>2} {what}: {shown_row(held[2])}")
    return lines


def machine_lines(machine):
    """One line for each state: its number, and the answer and the next state for each deed."""
    lines = []
    for number, row in enumerate(machine.rows()):
        parts = [f"{number:>3}"]
        for deed, (answer, behind) in zip(machine.menu, row):
            parts.append(f"{deed} {shown_answer(answer)} {behind}")
        lines.append(" | ".join(parts))
    return lines
