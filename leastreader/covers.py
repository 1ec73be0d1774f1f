"""Covers: controls all of whose streams another control answers alike."""

from leastreader.classes import Classes, word_tokens_at


def least_lacking(one, other):
    """The least word of the first dict that the second one does not have with the same token, or None."""
    for word in one:
        if one[word] != other.get(word):
            return word
    return None


class Covers:
    """Which controls of a first format are covered by which ones of a second format."""

    def __init__(self, one, other):
        self._one = one
        self._other = other
        # Controls of one class are covered alike, so each class is looked at once.
        self._classes = Classes(one, other)
        self._leads = self.found_leads()

    def first_members(self, second):
        """For each class of the controls of one of the formats the number of its first control there."""
        controls = self._other if second else self._one
        found = {}
        for number in range(len(controls)):
            found.setdefault(self._classes.class_of(number, second=second), number)
        return found

    def pair_of(self, a, b):
        """The pair of the classes of a control of the first format and one of the second."""
        return (self._classes.class_of(a), self._classes.class_of(b, second=True))

    def lacking(self, a, b):
        """The least word at a that b does not have with the same token, or None."""
        return least_lacking(word_tokens_at(self._one, a), word_tokens_at(self._other, b))

    def uncovered_at_once(self, a, b):
        """True if the controls themselves show that the first one is not covered."""
        if self._one.fmt.restarts and not self._other.fmt.restarts:
            return True
        return self.lacking(a, b) is not None

    def next_pairs(self, a, b):
        """The pairs behind the steps that both controls can take, each with the first step that leads there."""
        found = {}
        for word, plain, behind in self._one.links(a):
            if plain[0] != "letter":
                found.setdefault(self.pair_of(behind, self._other.behind(b, word)), word)
        if self._one.fmt.restarts:
            found.setdefault(self.pair_of(0, 0), "restart")
        return found

    def found_leads(self):
        """For each pair of classes that is not covered None, or the first step of a shortest walk and what follows."""
        leads = {}
        nexts = {}
        members = self.first_members(True)
        for one, a in self.first_members(False).items():
            for other, b in members.items():
                if self.uncovered_at_once(a, b):
                    leads[(one, other)] = None
                else:
                    nexts[(one, other)] = self.next_pairs(a, b)
        growing = True
        while growing:
            more = {}
            for pair, steps in nexts.items():
                found = [(step, behind) for behind, step in steps.items() if behind in leads]
                if len(found) > 0:
                    more[pair] = found[0]
            for pair in more:
                leads[pair] = more[pair]
                del nexts[pair]
            growing = len(more) > 0
        return leads

    def covered(self, a, b):
        """True if the control of the first format is covered by that of the second one."""
        return self.pair_of(a, b) not in self._leads

    def uncovered(self, a, b):
        """A shortest walk that shows that a control is not covered, with the least word that does, or None."""
        if self.covered(a, b):
            return None
        steps = []
        one = a
        other = b
        lead = self._leads[self.pair_of(one, other)]
        while lead is not None:
            step = lead[0]
            steps.append(step)
            one = 0 if step == "restart" else self._one.behind(one, step)
            other = 0 if step == "restart" else self._other.behind(other, step)
            lead = self._leads[lead[1]]
        return (steps, self.lacking(one, other))
