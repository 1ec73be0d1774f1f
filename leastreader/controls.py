"""Controls: the table in force with the recent distances, and which of them are reached from the start."""

from leastreader.errors import BadBits, BadState, TooLarge
from leastreader.letters import is_whole, is_within
from leastreader.telling import move_recents, resolve

ENDED = (-1, ())
MOST_CONTROLS = 150


def has_control_form(value):
    """True for a tuple of an integer and a tuple of integers."""
    if not isinstance(value, tuple) or len(value) != 2 or not isinstance(value[1], tuple):
        return False
    return all([is_whole(part) for part in (value[0],) + value[1]])


def words_at(fmt, control):
    """The words at a control, ascending."""
    if control == ENDED:
        return []
    return fmt.table(control[0]).words()


def link_of(fmt, control, word):
    """The resolved token of a word at the control, and the control to which it leads."""
    token = fmt.table(control[0]).token(word)
    plain = resolve(token, control[1], fmt.width)
    if token[0] == "stop":
        return (plain, ENDED)
    if token[0] == "turn":
        return (plain, (token[1], control[1]))
    return (plain, (control[0], move_recents(token, control[1], fmt.width, fmt.copied, fmt.again_rule)))


def explored(fmt):
    """The reached controls in their order, their ways, and for each one the links of its words."""
    order = [(0, fmt.recents)]
    ways = {order[0]: []}
    links = []
    while len(links) < len(order):
        control = order[len(links)]
        found = {}
        for word in words_at(fmt, control):
            found[word] = link_of(fmt, control, word)
            behind = found[word][1]
            if behind not in ways:
                if len(order) == MOST_CONTROLS:
                    raise TooLarge(MOST_CONTROLS)
                order.append(behind)
                ways[behind] = ways[control] + [word]
        links.append(found)
    return (order, list(ways.values()), links)


class Controls:
    """The reached controls of a format, numbered."""

    def __init__(self, fmt):
        self._fmt = fmt
        self._controls, self._ways, found = explored(fmt)
        self._numbers = {control: number for number, control in enumerate(self._controls)}
        # For each control: its words, each with its resolved token and the number of the control behind it.
        self._links = []
        for links in found:
            self._links.append({word: (links[word][0], self._numbers[links[word][1]]) for word in links})

    @property
    def fmt(self):
        """The format."""
        return self._fmt

    def __len__(self):
        return len(self._controls)

    def __iter__(self):
        return iter(self._controls)

    def __contains__(self, x):
        return has_control_form(x) and x in self._numbers

    def check_number(self, number):
        """Returns the number; raises BadState unless a reached control has it."""
        if not is_within(number, 0, len(self._controls) - 1):
            raise BadState("no reached control has this number")
        return number

    def number_of(self, control):
        """The number of the control."""
        if not has_control_form(control) or control not in self._numbers:
            raise BadState("not a reached control")
        return self._numbers[control]

    def at_number(self, number):
        """The control with this number."""
        return self._controls[self.check_number(number)]

    def words(self, number):
        """The words at the control, ascending."""
        return list(self._links[self.check_number(number)])

    def links(self, number):
        """The triples (word, resolved token, number behind) of the words at the control, ascending."""
        found = self._links[self.check_number(number)]
        return [(word, found[word][0], found[word][1]) for word in found]

    def link(self, number, word):
        """The resolved token and the number behind the word, or None if it is not a word there."""
        found = self._links[self.check_number(number)]
        return found.get(word) if isinstance(word, str) else None

    def token(self, number, word):
        """The resolved token of the word there."""
        return self.check_link(number, word)[0]

    def behind(self, number, word):
        """The number of the control to which the word leads."""
        return self.check_link(number, word)[1]

    def check_link(self, number, word):
        """Returns the resolved token and the number behind the word; raises BadBits."""
        found = self.link(number, word)
        if found is None:
            raise BadBits("not a word at the control")
        return found

    def is_begun(self, number, bits):
        """True for a begun word at the control."""
        control = self.at_number(number)
        if control == ENDED:
            return isinstance(bits, str) and bits == ""
        return self._fmt.table(control[0]).is_begun(bits)

    def begun_words(self, number):
        """The begun words of the control's table, ascending."""
        control = self.at_number(number)
        if control == ENDED:
            return [""]
        return self._fmt.table(control[0]).begun_words()

    def rests(self, number, begun):
        """The rests of a begun word, ascending."""
        if not self.is_begun(number, begun):
            raise BadBits("not a begun word at the control")
        if self._controls[number] == ENDED:
            return []
        return self._fmt.table(self._controls[number][0]).rests(begun)

    def way(self, number):
        """The words of the way to the control."""
        return list(self._ways[self.check_number(number)])

    def ended_number(self):
        """The number of ENDED, or None."""
        return self._numbers.get(ENDED)


def controls_of(fmt):
    """The reached controls of the format, worked out when they are needed for the first time."""
    if fmt.known_controls is None:
        fmt.known_controls = Controls(fmt)
    return fmt.known_controls
