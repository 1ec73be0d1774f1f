"""Pieces: streams in pieces of whole words, of which some may be lost."""

from leastreader.classes import classes_of
from leastreader.controls import controls_of
from leastreader.errors import BadFormat, BadPieces, BadSize, NotAllowed
from leastreader.letters import HOLE, at_place, check_size, check_window, is_series, is_within
from leastreader.telling import told_count
from leastreader.words import is_bits


def read_piece(controls, bits):
    """The resolved tokens of the words that the bits consist of, and the number of the control behind them.

    None if the value is not bits, or they do not consist of whole words from the start on.
    """
    if not is_bits(bits):
        return None
    tokens = []
    number = 0
    begun = ""
    for bit in bits:
        begun = begun + bit
        link = controls.link(number, begun)
        if link is not None:
            tokens.append(link[0])
            number = link[1]
            begun = ""
    return None if begun != "" else (tokens, number)


def sources_of(plain, first):
    """The sources of the letters of a resolved token, the first of which has the number first."""
    if plain[0] != "copy":
        return [None] * told_count(plain)
    found = []
    for number in range(first, first + plain[2]):
        back = number - plain[1]
        found.append(("letter", back) if back >= 0 else ("place", -back))
    return found


class Pieces:
    """A stream in pieces; its parts do not change."""

    def __init__(self, fmt, rows):
        if not fmt.restarts:
            raise NotAllowed("the format does not allow restarts")
        self._fmt = fmt
        controls = controls_of(fmt)
        if not is_series(rows):
            raise BadPieces(0)
        self._bits = []
        self._bounds = []
        self._behind = []
        # For each letter the letter of its word (None for a copied one), its source and its piece.
        self._values = []
        self._sources = []
        self._homes = []
        for at, bits in enumerate(rows):
            found = read_piece(controls, bits)
            if found is None:
                raise BadPieces(at)
            self._bits.append(bits)
            self._behind.append(found[1])
            self.add_tokens(found[0])

    def add_tokens(self, tokens):
        """Adds the letters of the tokens of one more piece."""
        first = len(self._sources)
        for plain in tokens:
            self._values.extend([plain[1] if plain[0] == "letter" else None] * told_count(plain))
            self._sources.extend(sources_of(plain, len(self._sources)))
        self._homes.extend([len(self._bounds)] * (len(self._sources) - first))
        self._bounds.append((first, len(self._sources)))

    def __len__(self):
        return len(self._bits)

    def bounds(self, k):
        """The number of the first letter of the piece and the number behind its last one."""
        return self._bounds[check_size(k, 0, len(self._bits) - 1)]

    def letters(self, k):
        """How many letters the piece outputs."""
        first, behind = self.bounds(k)
        return behind - first

    def told(self, window, *, lost=()):
        """The output over the window if these pieces are lost."""
        now = check_window(window, self._fmt.n, self._fmt.width)
        if not is_series(lost) or not all([is_within(k, 0, len(self._bits) - 1) for k in lost]):
            raise BadSize("not indexes of pieces")
        gone = {k: True for k in lost}
        found = []
        for at, source in enumerate(self._sources):
            if self._homes[at] in gone:
                found.append(HOLE)
            elif source is None:
                found.append(self._values[at])
            else:
                found.append(found[source[1]] if source[0] == "letter" else at_place(now, source[1]))
        return tuple(found)

    def source(self, at):
        """The source of a letter, or None."""
        return self._sources[check_size(at, 0, len(self._sources) - 1)]

    def spoilt(self, lost):
        """The numbers of the letters that are output as holes over windows of letters, ascending."""
        found = self.told((0,) * self._fmt.width, lost=lost)
        return [at for at, entry in enumerate(found) if entry == HOLE]

    def needed(self, a, b):
        """The pieces on which the letters from a on, up to b, depend, ascending."""
        check_size(b, 0, len(self._sources))
        check_size(a, 0, b)
        wanted = {at: True for at in range(a, b)}
        # A source has a lesser number than its letter.
        for at in range(b - 1, -1, -1):
            source = self._sources[at]
            if at in wanted and source is not None and source[0] == "letter":
                wanted[source[1]] = True
        return sorted({self._homes[at] for at in wanted})

    def known_from(self, first):
        """For each letter from the first one on True if it depends on nothing ahead of the first one."""
        found = []
        for source in self._sources[first:]:
            if source is None:
                found.append(True)
            else:
                found.append(source[0] == "letter" and source[1] >= first and found[source[1] - first])
        return found

    def late(self, k):
        """What a reader that begins with the piece outputs as letters, and the first piece at whose end it is in step.

        The letters are given by their numbers, ascending; the piece may be None.
        """
        first = self.bounds(k)[0]
        known = self.known_from(first)
        numbers = [first + at for at, good in enumerate(known) if good]
        reach = classes_of(self._fmt).reach()
        for piece in range(k, len(self._bits)):
            many = self._bounds[piece][1] - first
            depth = reach.of(self._behind[piece])
            if depth <= many and all(known[many - depth:many]):
                return (numbers, piece)
        return (numbers, None)

    def joined(self, other):
        """The stream of these pieces and then those of the other one."""
        if not self._fmt == other._fmt:
            raise BadFormat("the formats are not equal")
        return Pieces(self._fmt, self._bits + other._bits)
