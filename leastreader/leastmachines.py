"""Least machines: machines of least states, which states deeds tell apart, and machines without superfluous states."""

from leastreader.classes import classes_of, numbered, refined
from leastreader.errors import BadMachine, BadWindow, TooLarge
from leastreader.letters import HOLE, check_window, is_within
from leastreader.machines import BITS_MENU, MOST_STATES, RESTARTS_MENU, Machine
from leastreader.patterns import least_at
from leastreader.states import after_deed, start_state


def check_letters_alone(fmt, window):
    """Raises BadWindow unless the window is one of the format, without holes."""
    if HOLE in check_window(window, fmt.n, fmt.width):
        raise BadWindow("a hole in the window")


def least_machine(fmt, window):
    """The least machine of the format and the window, and the list of its least states."""
    check_letters_alone(fmt, window)
    classes = classes_of(fmt)
    # For each least state one state that has it stands for all of them.
    states = [start_state(fmt, window)]
    numbers = {least_at(classes, states[0], False): 0}
    rows = []
    while len(rows) < len(states):
        row = []
        for deed in RESTARTS_MENU if fmt.restarts else BITS_MENU:
            answer, behind = after_deed(classes.one, states[len(rows)], deed)
            held = least_at(classes, behind, False)
            if held not in numbers:
                if len(states) == MOST_STATES:
                    raise TooLarge(MOST_STATES)
                numbers[held] = len(states)
                states.append(behind)
            row.append((answer, numbers[held]))
        rows.append(row)
    return (Machine(rows, restarts=fmt.restarts), list(numbers))


def leader_of(leaders, state):
    """The state that leads those with which the state is joined."""
    now = state
    while leaders[now] != now:
        leaders[now] = leaders[leaders[now]]
        now = leaders[now]
    return now


def join_states(leaders, a, b):
    """Joins two states and returns True; returns False if they are joined already."""
    one = leader_of(leaders, a)
    other = leader_of(leaders, b)
    leaders[one] = other
    return one != other


def deeds_to(leads, at):
    """The deeds that lead to the pair with this index; a lead is (index of the pair ahead, deed)."""
    deeds = []
    now = at
    while now > 0:
        now, deed = leads[now]
        deeds.append(deed)
    return deeds[::-1]


def first_parting(rows, menu, a, b):
    """The first deeds that part two states of the rows, or None."""
    leaders = list(range(len(rows)))
    pairs = [(a, b)]
    leads = [(0, "")]
    at = 0
    while at < len(pairs):
        moves = list(zip(menu, rows[pairs[at][0]], rows[pairs[at][1]]))
        for deed, one, other in moves:
            if one[0] != other[0]:
                return deeds_to(leads, at) + [deed]
        for deed, one, other in moves:
            # What parts two states that earlier pairs join parts one of these pairs, too, so it comes no sooner.
            if join_states(leaders, one[1], other[1]):
                pairs.append((one[1], other[1]))
                leads.append((at, deed))
        at += 1
    return None


def parting_row(machine, a, b):
    """The first deeds that part two states of the machine, or None."""
    if not is_within(a, 0, len(machine) - 1) or not is_within(b, 0, len(machine) - 1):
        raise BadMachine("not the number of a state")
    return first_parting(machine.rows(), machine.menu, a, b)


def folded(machine):
    """The machine with one state for each set of equivalent reached states."""
    rows = machine.renumbered().rows()
    nexts = [[behind for _, behind in row] for row in rows]
    marks = refined(numbered([tuple([answer for answer, _ in row]) for row in rows]), nexts)[-1]
    # The sets are numbered by their first states, and these come in the order of first reaching.
    firsts = {}
    for state, mark in enumerate(marks):
        firsts.setdefault(mark, state)
    found = []
    for state in firsts.values():
        found.append([(answer, marks[behind]) for answer, behind in rows[state]])
    return Machine(found, restarts=machine.restarts)
