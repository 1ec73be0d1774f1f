"""Slow machines, made of the words of the points 91 to 97: lists of rows of pairs (answer, next state)."""

import itertools

from leastreader.machines import Machine
from slow import slow_deed

ANSWERS = (("refused",), ("taken",), ("turned",), ("stopped",), ("restarted",), ("told", (0,)), ("told", (15, 0) * 20))


def menu_of(restarts):
    return ("0", "1", "restart") if restarts else ("0", "1")


def slow_answers(rows, menu, deeds, state=0):
    """The answers to the deeds and the state behind them."""
    answers = []
    for deed in deeds:
        answer, state = rows[state][menu.index(deed)]
        answers.append(answer)
    return answers, state


def sequences(menu, most):
    """All sequences of at most so many deeds, the first one first."""
    for many in range(most + 1):
        yield from itertools.product(menu, repeat=many)


def slow_parting(menu, rows, a, others, b, most):
    """The first deeds that part the state a of some rows from the state b of others, or None."""
    for deeds in sequences(menu, most):
        if slow_answers(rows, menu, deeds, a)[0] != slow_answers(others, menu, deeds, b)[0]:
            return list(deeds)
    return None


def slow_reached(rows):
    """The reached states in the order of first reaching."""
    order = [0]
    for state in order:
        order += [behind for at, (_, behind) in enumerate(rows[state]) if behind not in order + [b for _, b in rows[state][:at]]]
    return order


def slow_renumbered(rows):
    order = slow_reached(rows)
    return [[(answer, order.index(behind)) for answer, behind in rows[state]] for state in order]


def slow_marks(rows):
    """For each state a number; equal ones for states that no deeds part."""
    marks, count = [0] * len(rows), 0
    while len(set(marks)) > count:
        count = len(set(marks))
        keys = [(marks[at], tuple((answer, marks[behind]) for answer, behind in row)) for at, row in enumerate(rows)]
        marks = [keys.index(key) for key in keys]
    return marks


def slow_folded(rows):
    rows = slow_renumbered(rows)
    marks = slow_marks(rows)
    return slow_renumbered([[(answer, marks[behind]) for answer, behind in row] for row in rows])


def reader_rows(fmt, window):
    """The states of the format that deeds of the menu lead to from the start over the window, and their rows."""
    states = [((0, fmt.recents), "", tuple(window))]
    numbers, rows = {states[0]: 0}, []
    for state in states:
        done = [slow_deed(fmt, state, deed) for deed in menu_of(fmt.restarts)]
        for _, behind in done:
            if behind not in numbers:
                numbers[behind] = len(states)
                states.append(behind)
        rows.append([(answer, numbers[behind]) for answer, behind in done])
    return states, rows


def some_machine_rows(dice, many, restarts, kinds=2):
    """The rows of a machine with few kinds of answers, so that some states are equivalent."""
    answers = dice.sample(ANSWERS, kinds)
    return [[(dice.choice(answers), dice.randrange(many)) for _ in menu_of(restarts)] for _ in range(many)]


def as_rows(machine):
    """The rows of a machine as lists."""
    return [list(row) for row in machine.rows()]


def grown(dice, machine):
    """A machine that answers alike: doubled, its states in another order, with states that are not reached."""
    rows = as_rows(machine.doubled())
    order = [0] + dice.sample(range(1, len(rows)), len(rows) - 1)
    rows = [[(answer, order.index(behind)) for answer, behind in rows[state]] for state in order]
    extra = [(dice.choice(ANSWERS), dice.randrange(len(rows))) for _ in machine.menu]
    return Machine(rows + [extra], restarts=machine.restarts)


def with_answer(machine, state, at, answer):
    """The machine with one answer replaced."""
    rows = as_rows(machine)
    rows[state][at] = (answer, rows[state][at][1])
    return Machine(rows, restarts=machine.restarts)
