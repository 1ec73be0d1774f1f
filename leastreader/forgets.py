"""Forgets: the fewest bits of a way behind which all is known that anything to come can look back at."""

from heapq import heappop, heappush

from leastreader.controls import controls_of
from leastreader.errors import BadBits, BadSize, BadState, TooLarge
from leastreader.letters import is_series, is_within
from leastreader.reach import Reach

MOST_FORGOTTEN = 10


def mask_behind(plain, mask, width):
    """The known places behind a resolved token; place p is known if the binary digit p - 1 is 1."""
    whole = (1 << width) - 1
    if plain[0] == "letter":
        return ((mask << 1) | 1) & whole
    now = mask
    if plain[0] == "copy":
        for _ in range(plain[2]):
            now = ((now << 1) | ((now >> (plain[1] - 1)) & 1)) & whole
    return now


def places_in(mask, width):
    """The places that are known, ascending."""
    return [place for place in range(1, width + 1) if (mask >> (place - 1)) & 1 == 1]


def steps_at(controls, number):
    """For each different use of a word at the control, (resolved token, number behind), its first word.

    All letters have one use: what matters is that they are known.
    """
    found = {}
    for word, plain, behind in controls.links(number):
        if plain[0] != "stop":
            key = (("letter",) if plain[0] == "letter" else plain, behind)
            found[key] = min(found.get(key, (len(word), word)), (len(word), word))
    return [(plain, behind, word) for (plain, behind), (_, word) in found.items()]


def is_held(masks, mask):
    """True if all that the mask knows one of the masks knows."""
    for other in masks:
        if mask & other == mask:
            return True
    return False


class Forgets:
    """The fewest bits that forget the window, from each control of a format and with some places known at first."""

    def __init__(self, fmt):
        if fmt.width > MOST_FORGOTTEN:
            raise TooLarge(MOST_FORGOTTEN)
        self._controls = controls_of(fmt)
        self._width = fmt.width
        reach = Reach(self._controls)
        numbers = range(len(self._controls))
        # The mask that knows all places up to the reach.
        self._goals = [(1 << reach.of(number)) - 1 for number in numbers]
        self._steps = [steps_at(self._controls, number) for number in numbers]
        self._behind = {}

    def check_start(self, number, known):
        """The mask of the known places; raises BadState for a number, BadSize for places that are not allowed."""
        if self._controls.check_number(number) == self._controls.ended_number():
            raise BadState("the number of ENDED")
        if not is_series(known) or not all([is_within(place, 1, self._width) for place in known]):
            raise BadSize("not a sequence of places")
        mask = 0
        for place in known:
            mask = mask | (1 << (place - 1))
        return mask

    def moved_mask(self, plain, mask):
        """What mask_behind says, kept for the next time."""
        key = (plain, mask)
        if key not in self._behind:
            self._behind[key] = mask_behind(plain, mask, self._width)
        return self._behind[key]

    def first_way(self, number, mask):
        """A way of the fewest bits, a list of words."""
        # Each entry of the queue is (bits, entry number, number of the control, mask); ways are kept by entry number.
        queue = [(0, 0, number, mask)]
        leads = [None]
        best = {(number, mask): 0}
        done = {}
        while len(queue) > 0:
            cost, entry, now, known = heappop(queue)
            if known & self._goals[now] == self._goals[now]:
                return words_of(leads, entry)
            masks = done.setdefault(now, [])
            # Who knows more, and has read no more bits, needs no more bits.
            if not is_held(masks, known):
                masks.append(known)
                for plain, behind, word in self._steps[now]:
                    key = (behind, self.moved_mask(plain, known))
                    if key not in best or cost + len(word) < best[key]:
                        best[key] = cost + len(word)
                        leads.append((entry, word))
                        heappush(queue, (best[key], len(leads) - 1, key[0], key[1]))
        return []

    def of(self, number, known=()):
        """The fewest bits of a way from the control behind which all places up to the reach are known."""
        return len("".join(self.way(number, known)))

    def way(self, number, known=()):
        """A way of the fewest bits behind which all places up to the reach are known."""
        return self.first_way(number, self.check_start(number, known))

    def known_behind(self, number, word, known=()):
        """The places that are known behind a word at the control."""
        mask = self.check_start(number, known)
        link = self._controls.link(number, word)
        if link is None:
            raise BadBits("not a word at the control")
        return places_in(self.moved_mask(link[0], mask), self._width)


def words_of(leads, entry):
    """The words that lead to an entry; a lead is (entry ahead, word)."""
    words = []
    lead = leads[entry]
    while lead is not None:
        words.append(lead[1])
        lead = leads[lead[0]]
    return words[::-1]
