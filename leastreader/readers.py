"""Readers: what takes deeds one by one, answers them, and remembers its state and its output."""

from leastreader.controls import ENDED, controls_of
from leastreader.letters import HOLE, check_size
from leastreader.states import after_deed, check_deed, check_future, check_state_of, output_added, start_state

MOST_LOSSES = 2000


class Reader:
    """A reader of a format."""

    REFUSED = "refused"
    TAKEN = "taken"
    TOLD = "told"
    TURNED = "turned"
    STOPPED = "stopped"
    RESTARTED = "restarted"
    LOST = "lost"

    def __init__(self, fmt, *, window=None):
        self._fmt = fmt
        self._controls = controls_of(fmt)
        self._state = start_state(fmt, (HOLE,) * fmt.width if window is None else window)
        self._output = []

    @classmethod
    def of_state(cls, fmt, state):
        """A reader in this state that has output nothing yet."""
        made = cls(fmt)
        made.put(state)
        return made

    def put(self, state):
        """Puts the reader into the state; what was output stays."""
        self._state = check_state_of(self._controls, state)

    @property
    def fmt(self):
        """The format."""
        return self._fmt

    @property
    def control(self):
        """The control."""
        return self._state[0]

    @property
    def begun(self):
        """The bits begun."""
        return self._state[1]

    @property
    def window(self):
        """The window."""
        return self._state[2]

    @property
    def state(self):
        """The tuple (control, begun, window) of the moment."""
        return self._state

    @property
    def ended(self):
        """True if the control is ENDED."""
        return self._state[0] == ENDED

    def take(self, deed):
        """Takes the deed and returns the answer."""
        answer, self._state = after_deed(self._controls, self._state, check_deed(deed))
        self._output.extend(output_added(answer))
        return answer

    def feed(self, deeds):
        """Takes the deeds of a future and returns the list of the answers."""
        return [self.take(deed) for deed in check_future(deeds)]

    def restart(self):
        """Takes a restart and returns the answer."""
        return self.take("restart")

    def lose(self, many=1):
        """Takes so many losses and returns the last answer."""
        check_size(many, 1, MOST_LOSSES)
        return self.feed(["loss"] * many)[-1]

    def told(self):
        """All that was output, with a hole for each loss."""
        return tuple(self._output)

    def twin(self):
        """A reader of its own in the same state, with the same output."""
        made = Reader(self._fmt)
        made.put(self._state)
        made.follow(self._output)
        return made

    def follow(self, row):
        """Counts the row as output; the window stays as it is."""
        self._output.extend(row)
