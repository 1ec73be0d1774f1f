"""Rightness: whether a machine answers as a reader of the format does."""

from leastreader.errors import BadMachine
from leastreader.leastmachines import first_parting, least_machine


def least_with_menu(fmt, window, machine):
    """The least machine and its least states; raises BadMachine unless the machine has the menu of the format."""
    found = least_machine(fmt, window)
    if machine.menu != found[0].menu:
        raise BadMachine("not the menu of the format")
    return found


def erring_row(fmt, window, machine):
    """The first deeds whose last answer is wrong, or None."""
    least = least_with_menu(fmt, window, machine)[0]
    many = len(machine)
    rows = list(machine.rows())
    for row in least.rows():
        rows.append([(answer, behind + many) for answer, behind in row])
    return first_parting(rows, machine.menu, 0, many)


def states_map(fmt, window, machine):
    """For each reached state of a right machine its least state; None if the machine is not right."""
    least, leasts = least_with_menu(fmt, window, machine)
    rows = machine.rows()
    least_rows = least.rows()
    numbers = {0: 0}
    waiting = [0]
    while len(waiting) > 0:
        state = waiting.pop()
        for move, met in zip(rows[state], least_rows[numbers[state]]):
            if move[0] != met[0]:
                return None
            if move[1] not in numbers:
                numbers[move[1]] = met[1]
                waiting.append(move[1])
            elif numbers[move[1]] != met[1]:
                return None
    return {state: leasts[numbers[state]] for state in sorted(numbers)}
