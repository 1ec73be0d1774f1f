"""Desks: readers that keep heads, go on from them, undo deeds and try some."""

from leastreader.alikes import parting_future
from leastreader.classes import Classes, classes_of
from leastreader.controls import controls_of
from leastreader.errors import BadName, NotAllowed, NotDone
from leastreader.heads import Head
from leastreader.leasts import least_state, state_with
from leastreader.letters import HOLE, check_size, is_within
from leastreader.readers import MOST_LOSSES
from leastreader.states import after_deed, check_deed, check_future, output_added, start_state
from leastreader.trials import Trial

GREATEST_NAME = 99


def check_name(name):
    """Returns the name of a head; raises BadName."""
    if not is_within(name, 0, GREATEST_NAME):
        raise BadName("not the name of a head")
    return name


class Desk:
    """A desk of a format."""

    def __init__(self, fmt, *, window=None):
        self._fmt = fmt
        self._controls = controls_of(fmt)
        # A trial puts back what these four held: the state, the output, what can be undone, and the heads by names.
        self.now = start_state(fmt, (HOLE,) * fmt.width if window is None else window)
        self.row = []
        # For each deed that can be undone the state ahead of it and the length of the output there.
        self.past = []
        self.shelf = {}

    @property
    def fmt(self):
        """The format."""
        return self._fmt

    @property
    def state(self):
        """The tuple (control, begun, window) of the moment."""
        return self.now

    @property
    def told_text(self):
        """The output since the desk was made."""
        return tuple(self.row)

    @told_text.setter
    def told_text(self, value):
        raise NotAllowed("the output is not assigned")

    def take(self, deed):
        """Takes the deed and returns the answer."""
        answer, behind = after_deed(self._controls, self.now, check_deed(deed))
        self.past.append((self.now, len(self.row)))
        self.now = behind
        self.row.extend(output_added(answer))
        return answer

    def feed(self, deeds):
        """Takes the deeds of a future and returns the list of the answers."""
        return [self.take(deed) for deed in check_future(deeds)]

    def restart(self):
        """Takes a restart and returns the answer."""
        return self.take("restart")

    def lose(self, many=1):
        """Takes so many losses and returns the last answer."""
        check_size(many, 1, MOST_LOSSES)
        return self.feed(["loss"] * many)[-1]

    def undo(self, many=1):
        """Undoes the last deeds."""
        check_size(many, 0, MOST_LOSSES)
        if many > len(self.past):
            raise NotDone("not so many deeds were taken")
        if many > 0:
            state, length = self.past[len(self.past) - many]
            self.now = state
            self.row = self.row[:length]
            self.past = self.past[:len(self.past) - many]

    def keep(self, name):
        """Keeps a head under the name."""
        check_name(name)
        self.shelf[name] = Head(classes_of(self._fmt), self.least())

    def head(self, name):
        """The head of this name."""
        if check_name(name) not in self.shelf:
            raise BadName("no head has this name")
        return self.shelf[name]

    def go_on(self, name):
        """Goes on from the head of this name."""
        self.now = state_with(classes_of(self._fmt), self.head(name).held)
        self.past = []

    def forget(self, name):
        """Removes the head of this name."""
        self.head(name)
        del self.shelf[name]

    def names(self):
        """The names of the heads, ascending."""
        return sorted(list(self.shelf))

    def least(self):
        """The least state under the format's own classes."""
        return least_state(classes_of(self._fmt), self.now)

    def alike(self, other):
        """True if the two desks are alike."""
        classes = self.classes_with(other)
        return least_state(classes, self.now) == least_state(classes, other.now, second=True)

    def parting(self, other):
        """A future that parts the two desks, or None."""
        return parting_future(self.classes_with(other), self.now, other.now, second=True)

    def classes_with(self, other):
        """The classes of this desk's format and the other one's."""
        return Classes(self._controls, controls_of(other.fmt))

    def twin(self):
        """A desk with the same state, output and heads."""
        found = Desk(self._fmt, window=self.now[2])
        found.now = self.now
        found.row = list(self.row)
        found.shelf = {name: self.shelf[name] for name in self.shelf}
        return found

    def trial(self):
        """A trial on this desk."""
        return Trial(self)
