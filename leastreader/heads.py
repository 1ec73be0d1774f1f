"""Heads: least states that are kept, from which readers go on, also as text."""

from leastreader.errors import NoState
from leastreader.leasts import any_state_with, least_state
from leastreader.readers import Reader
from leastreader.states import shown_answer
from leastreader.tokens import read_number, written


def read_answer(parts):
    """The answer whose written form has these parts."""
    if parts[0] == "told":
        return ("told", tuple([read_number(part) for part in parts[1:]]))
    return tuple(parts)


def read_rest(line):
    """The triple (rest, answer, class) of a line; of a line of another form, what no least state holds."""
    parts = line.split(" ")
    if len(parts) < 4:
        return None
    return (parts[0], read_answer(parts[1:-2]), read_number(parts[-1]))


def read_least(text):
    """The least state whose written form the text is; of another text, what its written form is not."""
    lines = text.split("\n")
    parts = lines[0].split(" ")
    numbers = [read_number(part) for part in parts[1:]]
    if parts[0] == "at" and len(numbers) > 0:
        return ("at", numbers[0], tuple(numbers[1:]))
    return ("in", tuple([read_rest(line) for line in lines[1:]]), tuple(numbers))


class Head:
    """A head: a least state that is kept."""

    def __init__(self, classes, held):
        any_state_with(classes, held)
        self._classes = classes
        self._held = held

    @classmethod
    def kept(cls, classes, state, *, second=False):
        """The head with the least state of the state."""
        return cls(classes, least_state(classes, state, second=second))

    @classmethod
    def read(cls, classes, text):
        """The head whose written form the text is."""
        if not isinstance(text, str):
            raise NoState("not a string")
        made = cls(classes, read_least(text))
        # What was read must be written exactly so.
        if made.text() != text:
            raise NoState("not the written form of a head")
        return made

    @property
    def held(self):
        """The least state."""
        return self._held

    def __len__(self):
        return len(self._held[2])

    def __eq__(self, other):
        return isinstance(other, Head) and self._held == other._held

    def reader(self):
        """A reader that has output nothing, in the first state with the least state."""
        state, second = any_state_with(self._classes, self._held)
        return Reader.of_state(self._classes.reach(second=second).controls.fmt, state)

    def text(self):
        """The written form."""
        if self._held[0] == "at":
            return written(self._held[:2] + self._held[2])
        lines = [written(("in",) + self._held[2])]
        for rest, answer, mark in self._held[1]:
            lines.append(f"{rest} {shown_answer(answer)} class {mark}")
        return "\n".join(lines)
