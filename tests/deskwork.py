"""A slow desk, made of the words of the points 142 to 147, and acts for it."""

from leastreader.leasts import least_state, state_with
from slow import slow_deed, slow_output


class SlowDesk:
    """Keeps a full copy of what it was ahead of each deed."""

    def __init__(self, fmt, window, classes):
        self.fmt, self.classes = fmt, classes
        self.state, self.output, self.before, self.heads = ((0, fmt.recents), "", tuple(window)), (), [], {}

    def do(self, act):
        """The answer to a deed, None for another act that can be done, False for one that is refused."""
        if isinstance(act, str):
            self.before.append((self.state, self.output))
            answer, self.state = slow_deed(self.fmt, self.state, act)
            self.output += tuple(slow_output([answer]))
            return answer
        if act[0] == "undo":
            if act[1] > len(self.before):
                return False
            for _ in range(act[1]):
                self.state, self.output = self.before.pop()
        elif act[0] == "keep":
            self.heads[act[1]] = least_state(self.classes, self.state)
        elif act[1] not in self.heads:
            return False
        elif act[0] == "forget":
            del self.heads[act[1]]
        else:
            self.state, self.before = state_with(self.classes, self.heads[act[1]]), []
        return None

    def parts(self):
        return self.state, self.output, self.heads, self.before

    def put(self, parts):
        self.state, self.output, heads, before = parts
        self.heads, self.before = dict(heads), list(before)

    def copy(self):
        return (self.state, self.output, dict(self.heads), list(self.before))


def some_act(dice):
    """A deed, or another act with a name of few."""
    if dice.random() < 0.7:
        return dice.choice(("0", "1", "0", "1", "0", "1", "restart", "loss"))
    word = dice.choice(("undo", "keep", "go on", "forget", "undo", "keep"))
    return (word, dice.choice((0, 1, 1, 2, 3)) if word == "undo" else dice.choice((0, 7, 99)))
