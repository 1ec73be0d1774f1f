"""Alike states, and futures and streams that tell states apart."""

from leastreader.covers import Covers
from leastreader.errors import BadState
from leastreader.leasts import least_state
from leastreader.letters import at_place
from leastreader.noticing import step_deeds, steps_beyond
from leastreader.patterns import first_unlike_rest, rest_rows
from leastreader.states import after_deed, answer_of, check_state_of


def alike(classes, one, other, *, second=False):
    """True if the two states are alike."""
    return least_state(classes, one) == least_state(classes, other, second=second)


class Pair:
    """Two states that take the same deeds, up to the first one that they answer differently."""

    def __init__(self, classes, one, other, second):
        self.first = classes.one
        self.last = classes.reach(second=second).controls
        self.one_state = check_state_of(self.first, one)
        self.other_state = check_state_of(self.last, other)
        self.deeds = []
        self.parted = False

    def give(self, steps):
        """Gives both the deeds of the steps; nothing more is given once the answers have differed."""
        for deed in step_deeds(steps):
            if not self.parted:
                answer, self.one_state = after_deed(self.first, self.one_state, deed)
                met, self.other_state = after_deed(self.last, self.other_state, deed)
                self.deeds.append(deed)
                self.parted = answer != met

    def numbers(self):
        """The numbers of the two controls."""
        return (self.first.number_of(self.one_state[0]), self.last.number_of(self.other_state[0]))

    def has_begun(self):
        """True if bits are begun in one of the two states."""
        return self.one_state[1] != "" or self.other_state[1] != ""

    def unlike_place(self):
        """The least place at which the two windows differ, or None."""
        for place in range(1, min(len(self.one_state[2]), len(self.other_state[2])) + 1):
            if at_place(self.one_state[2], place) != at_place(self.other_state[2], place):
                return place
        return None

    def links(self, word):
        """What the word is at the two controls, as Controls.link says it."""
        a, b = self.numbers()
        return (self.first.link(a, word), self.last.link(b, word))

    def parted_now(self, word):
        """True if the word is a word of one control alone, or both answer it differently; no bits are begun."""
        one, other = self.links(word)
        if one is None or other is None:
            return True
        return answer_of(one[0], self.one_state[2]) != answer_of(other[0], self.other_state[2])

    def letter_words(self):
        """For each letter its first word at the first control."""
        found = {}
        for word, plain, _ in self.first.links(self.numbers()[0]):
            if plain[0] == "letter":
                found.setdefault(plain[1], word)
        return found

    def common_words(self):
        """For each letter that has a word at both controls the first such word."""
        found = {}
        for word, plain, _ in self.first.links(self.numbers()[0]):
            link = self.links(word)[1]
            if plain[0] == "letter" and link is not None and link[0] == plain:
                found.setdefault(plain[1], word)
        return found


def letters_ahead(tokens, common):
    """Letters, two of them in common, behind which two tokens do not output the same.

    The tokens are two copies of unlike distances, or a letter and a copy.
    """
    distances = [token[1] for token in tokens if token[0] == "copy"]
    # The greatest distance reaches back to the first letter, a lesser one to the letters behind it.
    first = [letter for letter in common if ("letter", letter) not in tokens][0]
    behind = [letter for letter in common if letter != first][0]
    return [first] + [behind] * (max(distances) - 1)


def part_by_word(pair, word):
    """Parts two states without bits begun by a word that only one control has, or that has unlike tokens there.

    Words of letters do not move the first control, and they are words of the second one, or part the two.
    """
    if pair.parted_now(word):
        pair.give([word])
        return
    common = pair.common_words()
    if len(common) >= 2:
        tokens = [link[0] for link in pair.links(word)]
        pair.give([common[letter] for letter in letters_ahead(tokens, list(common))])
        pair.give([word])
        return
    # One letter fills the window of the second state. Then it copies only this letter, and the word that another
    # letter has at the first control is none of that letter at the second one: else this letter would be common.
    own = pair.letter_words()
    filler = list(common)[0] if len(common) == 1 else 0
    pair.give([common.get(filler, own[filler])] * len(pair.other_state[2]))
    pair.give([own[1] if filler == 0 else own[0]])


def part_behind(pair, found):
    """Parts two states by a walk and a word behind it, or by a restart if the word is None."""
    steps, word = found
    pair.give(steps)
    if pair.parted:
        return
    if word is None:
        pair.give(["restart"])
    else:
        part_by_word(pair, word)


def leave_begun(classes, pair, second):
    """Parts two states of which one has bits begun, or gives both a rest behind which the classes differ."""
    one = rest_rows(classes, pair.one_state[:2], pair.one_state[2], False)
    other = rest_rows(classes, pair.other_state[:2], pair.other_state[2], second)
    rest = first_unlike_rest(one, other)
    if rest is not None:
        pair.give([rest])
        return
    # What is left is a place up to the depth. A copy that completes the word need not output it on both sides.
    number = pair.numbers()[0]
    pair.give(steps_beyond(classes.reach(), number, pair.one_state[1], pair.unlike_place()))


def part_whole(classes, pair, second):
    """Parts two states without bits begun that are not alike."""
    a, b = pair.numbers()
    found = classes.walk(a, b, b_second=second)
    if found is None:
        pair.give(classes.reach().noticed(a, pair.unlike_place()))
    else:
        part_behind(pair, found)


def parting_future(classes, one, other, *, second=False):
    """A future that gets different answers to its last deed alone, or None."""
    pair = Pair(classes, one, other, second)
    if alike(classes, one, other, second=second):
        return None
    if pair.has_begun():
        leave_begun(classes, pair, second)
    if not pair.parted:
        part_whole(classes, pair, second)
    return pair.deeds


def covers_of(classes, second):
    """The Covers of the first format by the one that second names, worked out when first needed."""
    key = "second covers" if second else "first covers"
    if key not in classes.known:
        classes.known[key] = Covers(classes.one, classes.reach(second=second).controls)
    return classes.known[key]


def whole_pair(classes, one, other, second):
    """The pair of two states without bits begun; raises BadState."""
    pair = Pair(classes, one, other, second)
    if pair.has_begun():
        raise BadState("bits are begun")
    return pair


def reads_alike(classes, pair, second):
    """True if every stream of the first state of a pair without bits begun is answered alike by the second one."""
    a, b = pair.numbers()
    if not covers_of(classes, second).covered(a, b):
        return False
    place = pair.unlike_place()
    return place is None or place > classes.reach().of(a)


def read_alike(classes, one, other, *, second=False):
    """True if every stream of the one state gets the same answers from the other."""
    return reads_alike(classes, whole_pair(classes, one, other, second), second)


def parting_stream(classes, one, other, *, second=False):
    """A stream of the one state whose last deed alone the other state answers differently, or None."""
    pair = whole_pair(classes, one, other, second)
    if reads_alike(classes, pair, second):
        return None
    a, b = pair.numbers()
    found = covers_of(classes, second).uncovered(a, b)
    if found is None:
        pair.give(classes.reach().noticed(a, pair.unlike_place()))
    else:
        part_behind(pair, found)
    return pair.deeds
