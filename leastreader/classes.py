"""Classes: controls that nothing to come can tell apart, of one format or of two."""

from leastreader.controls import controls_of
from leastreader.errors import BadClass, BadState
from leastreader.letters import is_series, is_whole, is_within
from leastreader.reach import Reach


def word_tokens_at(controls, number):
    """The words at a control, ascending, each with its resolved token."""
    return {word: plain for word, plain, _ in controls.links(number)}


def least_unlike(one, other):
    """The least of the words that are in one of two dicts alone or have unlike tokens there, or None."""
    for word in sorted(list(one) + list(other)):
        if one.get(word) != other.get(word):
            return word
    return None


def numbered(keys):
    """For each key how many different keys come ahead of its first occurrence."""
    found = {}
    return [found.setdefault(key, len(found)) for key in keys]


def first_marks(parts):
    """Marks of the controls of the formats: equal exactly if the controls do not differ at once."""
    keys = []
    for controls in parts:
        for number in range(len(controls)):
            tokens = word_tokens_at(controls, number)
            keys.append((controls.fmt.restarts, tuple(list(tokens.items()))))
    return numbered(keys)


def next_indexes(parts):
    """For each control the indexes of the controls behind its steps: its words, then a restart."""
    found = []
    base = 0
    for controls in parts:
        for number in range(len(controls)):
            behind = [base + link[2] for link in controls.links(number)]
            found.append(behind + [base] if controls.fmt.restarts else behind)
        base = base + len(controls)
    return found


def refined(marks, nexts):
    """The marks round by round: those of round k are equal exactly if no walk of at most k steps parts."""
    rounds = [marks]
    count = 0
    while len(set(rounds[-1])) > count:
        now = rounds[-1]
        count = len(set(now))
        keys = [(now[at], tuple([now[behind] for behind in nexts[at]])) for at in range(len(now))]
        rounds.append(numbered(keys))
    return rounds


class Classes:
    """The classes of the reached controls of one format, or of two."""

    def __init__(self, one, other=None):
        self._one = one
        self._other = other
        self._parts = [one] if other is None else [one, other]
        self._nexts = next_indexes(self._parts)
        self._rounds = refined(first_marks(self._parts), self._nexts)
        self._reaches = [Reach(controls) for controls in self._parts]
        # What other modules work out of the classes again and again is kept here, under a word of each module.
        self.known = {}

    @property
    def one(self):
        """The controls of the first format."""
        return self._one

    @property
    def other(self):
        """The controls of the second format, or None."""
        return self._other

    def check_second(self, second):
        """Returns 1 for the second format and 0 for the first one; raises BadState if there is no second one."""
        if second and self._other is None:
            raise BadState("there is no second format")
        return 1 if second else 0

    def index_of(self, number, second):
        """The index of the control among the controls of all formats."""
        at = self.check_second(second)
        self._parts[at].check_number(number)
        return number + at * len(self._one)

    def control_at(self, index):
        """The pair (second, number) of the control with this index."""
        if index < len(self._one):
            return (False, index)
        return (True, index - len(self._one))

    def tokens_at(self, index):
        """The words at the control with this index, each with its resolved token."""
        second, number = self.control_at(index)
        return word_tokens_at(self._parts[self.check_second(second)], number)

    def count(self):
        """The number of classes."""
        return len(set(self._rounds[-1]))

    def class_of(self, number, *, second=False):
        """The class of the control."""
        return self._rounds[-1][self.index_of(number, second)]

    def members(self, cls):
        """The controls of a class, pairs (second, number)."""
        if not is_within(cls, 0, self.count() - 1):
            raise BadClass("not the number of a class")
        return [self.control_at(index) for index, mark in enumerate(self._rounds[-1]) if mark == cls]

    def reach(self, *, second=False):
        """The reaches of the controls of the format."""
        return self._reaches[self.check_second(second)]

    def walk(self, a, b, *, a_second=False, b_second=False):
        """A shortest walk that parts two controls with the least word that tells them apart behind it, or None."""
        one = self.index_of(a, a_second)
        other = self.index_of(b, b_second)
        if self._rounds[-1][one] == self._rounds[-1][other]:
            return None
        level = 0
        while self._rounds[level][one] == self._rounds[level][other]:
            level += 1
        steps = []
        for k in range(level - 1, -1, -1):
            names = list(self.tokens_at(one)) + ["restart"]
            pairs = list(zip(names, self._nexts[one], self._nexts[other]))
            step, one, other = [part for part in pairs if self._rounds[k][part[1]] != self._rounds[k][part[2]]][0]
            steps.append(step)
        return (steps, least_unlike(self.tokens_at(one), self.tokens_at(other)))

    def marks_fit(self, marks):
        """True if controls with equal marks are alike at once and have equal marks behind each step."""
        if not is_series(marks) or len(marks) != len(self._nexts) or not all([is_whole(mark) for mark in marks]):
            raise BadClass("not one integer for each control")
        found = {}
        for index, mark in enumerate(marks):
            key = (self._rounds[0][index], tuple([marks[behind] for behind in self._nexts[index]]))
            if found.setdefault(mark, key) != key:
                return False
        return True


def classes_of(fmt):
    """The classes of the format alone, worked out when they are needed for the first time."""
    if fmt.known_classes is None:
        fmt.known_classes = Classes(controls_of(fmt))
    return fmt.known_classes
