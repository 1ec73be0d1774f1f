"""Texts: the fewest bits that output a text."""

from leastreader.bitrows import check_bits
from leastreader.controls import controls_of
from leastreader.errors import BadBits, BadRow, BadState
from leastreader.letters import HOLE, check_row, check_size, check_window, is_series
from leastreader.telling import told_count


def match_lengths(window, text):
    """For each index of the text the distances of which a copy outputs letters of the text from there on.

    They are given as dicts from the distances to the numbers of these letters.
    """
    width = len(window)
    row = window + text
    found = [{}]
    for at in range(len(row) - 1, width - 1, -1):
        lengths = {}
        for distance in range(1, width + 1):
            if row[at] == row[at - distance]:
                lengths[distance] = found[-1].get(distance, 0) + 1
        found.append(lengths)
    return found[::-1]


class WordCosts:
    """The lengths of the shortest words at a control, by what they do."""

    def __init__(self, controls, number):
        self.letter_costs = {}
        # For each distance the triples (length of the copy, number behind, length of the word).
        self.copy_costs = {}
        self.turn_costs = {}
        costs = {}
        for word, plain, behind in controls.links(number):
            costs[(plain, behind)] = min(len(word), costs.get((plain, behind), len(word)))
        for (plain, behind), cost in costs.items():
            if plain[0] == "letter":
                self.letter_costs[plain[1]] = cost
            elif plain[0] == "copy":
                self.copy_costs.setdefault(plain[1], []).append((plain[2], behind, cost))
            elif plain[0] == "turn":
                self.turn_costs[behind] = cost


class TextWays:
    """The fewest bits of ways that output a text, from each index of it and from each control."""

    def __init__(self, fmt, window, text):
        self._controls = controls_of(fmt)
        row = check_window(window, fmt.n, fmt.width)
        self._text = check_row(text, fmt.n)
        if HOLE in self._text:
            raise BadRow("a hole in the text")
        self._matches = match_lengths(row, self._text)
        self._costs = [WordCosts(self._controls, number) for number in range(len(self._controls))]
        # The index behind the text comes first, index 0 last.
        found = [[0] * len(self._controls)]
        for _ in range(len(self._text)):
            found.append(self.counts_ahead(found))
        self._counts = found[::-1]

    def counts_ahead(self, found):
        """For each control the fewest bits from the index ahead of those whose counts were found; None for ENDED."""
        at = len(self._text) - len(found)
        counts = []
        for number, costs in enumerate(self._costs):
            best = None
            if len(costs.letter_costs) > 0:
                best = costs.letter_costs[self._text[at]] + found[-1][number]
            for distance, length in self._matches[at].items():
                for told, behind, cost in costs.copy_costs.get(distance, []):
                    if told <= length:
                        best = min(best, cost + found[-told][behind])
            counts.append(best)
        return self.with_turns(counts)

    def with_turns(self, counts):
        """The counts once turns may come first, too."""
        found = list(counts)
        changed = True
        while changed:
            changed = False
            for number, costs in enumerate(self._costs):
                for behind, cost in costs.turn_costs.items():
                    if found[behind] + cost < found[number]:
                        found[number] = found[behind] + cost
                        changed = True
        return found

    def of(self, number, index=0):
        """The fewest bits of a way from the control that outputs the text from the index on, or None."""
        self._controls.check_number(number)
        check_size(index, 0, len(self._text))
        return self._counts[index][number]

    def fits(self, plain, at):
        """True if a word with this resolved token outputs just the next letters of the text, or none."""
        if plain[0] == "letter":
            return self._text[at:at + 1] == plain[1:]
        if plain[0] == "copy":
            return plain[2] <= self._matches[at].get(plain[1], 0)
        return True

    def first_step(self, number, at):
        """The first word with which the fewest bits are attained, the number behind it and the letters it tells."""
        found = []
        for word, plain, behind in self._controls.links(number):
            told = told_count(plain)
            if self.fits(plain, at) and self._counts[at + told][behind] is not None:
                if len(word) + self._counts[at + told][behind] == self._counts[at][number]:
                    found.append((len(word), word, behind, told))
        return min(found)[1:]

    def way(self, number):
        """A way from the control that outputs the text with the fewest bits, or None."""
        if self.of(number) is None:
            return None
        words = []
        now = number
        at = 0
        while at < len(self._text):
            word, now, told = self.first_step(now, at)
            words.append(word)
            at = at + told
        return words

    def bits(self, number):
        """The words of the way joined, or None."""
        words = self.way(number)
        return None if words is None else "".join(words)

    def drops(self, number, way):
        """By how much each word of the way lowers the fewest bits; None if it does not output just the text."""
        now = self._controls.check_number(number)
        if not is_series(way):
            raise BadBits("not a sequence of bits")
        words = [check_bits(word) for word in way]
        # The counts ahead of the words and behind the last one.
        counts = [self._counts[0][now]]
        at = 0
        for word in words:
            link = self._controls.link(now, word)
            if link is None or not self.fits(link[0], at):
                return None
            at = at + told_count(link[0])
            now = link[1]
            counts.append(self._counts[at][now])
        if at < len(self._text):
            return None
        return [counts[k] - counts[k + 1] for k in range(len(words))]


def shorter_copy(fmt, number):
    """The first word of a copy that letters alone do not beat, and the letter whose first word is longest; or None."""
    controls = controls_of(fmt)
    if controls.check_number(number) == controls.ended_number():
        raise BadState("the number of ENDED")
    table = fmt.table(controls.at_number(number)[0])
    lengths = [len(table.first_word(("letter", letter))) for letter in range(fmt.n)]
    greatest = max(lengths)
    found = []
    for word, plain, _ in controls.links(number):
        if plain[0] == "copy" and len(word) < plain[2] * greatest:
            found.append((len(word), word))
    if len(found) == 0:
        return None
    return (min(found)[1], lengths.index(greatest))
