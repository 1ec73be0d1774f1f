"""Machines: finite tables that answer deeds."""

from leastreader.errors import BadDeed, BadMachine, TooLarge
from leastreader.letters import MOST_LETTERS, is_series, is_within
from leastreader.states import check_future

MOST_STATES = 800
MOST_TOLD = 40
BITS_MENU = ("0", "1")
RESTARTS_MENU = ("0", "1", "restart")
PLAIN_ANSWERS = ("refused", "taken", "turned", "stopped", "restarted")


def is_machine_answer(value):
    """True for an answer that a machine may give."""
    if not isinstance(value, tuple) or len(value) == 0 or not isinstance(value[0], str):
        return False
    if value[0] != "told":
        return len(value) == 1 and value[0] in PLAIN_ANSWERS
    if len(value) != 2 or not isinstance(value[1], tuple) or not 1 <= len(value[1]) <= MOST_TOLD:
        return False
    return all([is_within(letter, 0, MOST_LETTERS - 1) for letter in value[1]])


def is_move(value, many):
    """True for a pair (answer, next state) of a machine of so many states."""
    if not is_series(value) or len(value) != 2:
        return False
    return is_machine_answer(value[0]) and is_within(value[1], 0, many - 1)


def is_state_row(value, deeds, many):
    """True for one pair for each of so many deeds."""
    return is_series(value) and len(value) == deeds and all([is_move(move, many) for move in value])


def reaching_order(rows):
    """The reached states in the order of first reaching."""
    order = [0]
    found = {0: True}
    at = 0
    while at < len(order):
        row = rows[order[at]]
        for _, behind in row:
            if behind not in found:
                found[behind] = True
                order.append(behind)
        at += 1
    return order


class Machine:
    """A machine; its parts do not change."""

    def __init__(self, rows, *, restarts=False):
        if not is_series(rows) or len(rows) == 0:
            raise BadMachine("no rows")
        if len(rows) > MOST_STATES:
            raise TooLarge(MOST_STATES)
        if not isinstance(restarts, bool):
            raise BadMachine("restarts is neither True nor False")
        self._menu = RESTARTS_MENU if restarts else BITS_MENU
        if not all([is_state_row(row, len(self._menu), len(rows)) for row in rows]):
            raise BadMachine("not one pair of an answer and a state for each deed")
        self._rows = tuple([tuple([tuple(move) for move in row]) for row in rows])

    @property
    def restarts(self):
        """True if the machine allows restarts."""
        return self._menu == RESTARTS_MENU

    @property
    def menu(self):
        """The deeds that the machine answers."""
        return self._menu

    def __len__(self):
        return len(self._rows)

    def __eq__(self, other):
        return isinstance(other, Machine) and self._menu == other._menu and self._rows == other._rows

    def rows(self):
        """For each state one pair (answer, next state) for each deed."""
        return self._rows

    def taken(self, deeds):
        """The answers to the deeds, and the state behind them."""
        checked = check_future(deeds)
        if not all([deed in self._menu for deed in checked]):
            raise BadDeed("not in the menu")
        answers = []
        now = 0
        for deed in checked:
            answer, now = self._rows[now][self._menu.index(deed)]
            answers.append(answer)
        return (answers, now)

    def run(self, deeds):
        """The answers to the deeds."""
        return self.taken(deeds)[0]

    def state_behind(self, deeds):
        """The state behind the deeds."""
        return self.taken(deeds)[1]

    def reached(self):
        """The reached states, ascending."""
        return sorted(reaching_order(self._rows))

    def renumbered(self):
        """The machine of the reached states, numbered in the order of first reaching."""
        order = reaching_order(self._rows)
        numbers = {state: number for number, state in enumerate(order)}
        rows = [[(answer, numbers[behind]) for answer, behind in self._rows[state]] for state in order]
        return Machine(rows, restarts=self.restarts)

    def doubled(self):
        """The machine with each state twice; the deed 0 leads to the second half, every other one to the first."""
        many = len(self._rows)
        rows = []
        for row in self._rows:
            moves = [(answer, behind) for answer, behind in row]
            moves[0] = (moves[0][0], moves[0][1] + many)
            rows.append(moves)
        # A machine of more than 800 states is refused where it is made.
        return Machine(rows + rows, restarts=self.restarts)
