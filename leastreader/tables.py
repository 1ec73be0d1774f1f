"""Tables: words of bits, each with the token that it stands for."""

from leastreader.errors import BadBits, BadSign, BadTable, BadToken, Letterless, TooLarge
from leastreader.letters import is_series, is_within
from leastreader.signs import check_sizes, is_sign, spread
from leastreader.tokens import is_token
from leastreader.words import LONGEST, free_words

FEWEST_PAIRS = 2
MOST_PAIRS = 40
MOST_WORDS = 120


def check_pairs(rows):
    """Returns the pairs as a tuple; raises BadTable. The signs are not checked."""
    if not is_series(rows) or not FEWEST_PAIRS <= len(rows) <= MOST_PAIRS:
        raise BadTable("not 2 to 40 pairs")
    if not all([isinstance(pair, tuple) and len(pair) == 2 for pair in rows]):
        raise BadTable("not a pair")
    if not all([is_within(pair[1], 1, LONGEST) for pair in rows]):
        raise BadTable("not a length from 1 to 10")
    return tuple(rows)


def word_tokens(pairs):
    """The token of each word of the pairs, whose signs are valid."""
    found = {}
    free = free_words([pair[1] for pair in pairs])
    for word, pair in zip(free, pairs):
        for extra, token in spread(pair[0]):
            found[word + extra] = token
    return found


def first_words(tokens):
    """The first word of each token."""
    found = {}
    for pair in sorted([(len(word), word) for word in tokens]):
        found.setdefault(tokens[pair[1]], pair[1])
    return found


def proper_prefixes(words):
    """The begun words, each as a key."""
    found = {}
    for word in words:
        for many in range(len(word)):
            found[word[:many]] = True
    return found


class Table:
    """The words of pairs (sign, length), for sizes that are given."""

    def __init__(self, rows, *, n, width, many, tables):
        check_sizes(n, width, many, tables)
        self._pairs = check_pairs(rows)
        if not all([is_sign(pair[0], n, width, many, tables) for pair in self._pairs]):
            raise BadSign("not a sign for these sizes")
        self._tokens = word_tokens(self._pairs)
        if len(self._tokens) > MOST_WORDS:
            raise TooLarge(MOST_WORDS)
        self._firsts = first_words(self._tokens)
        for letter in range(n):
            if ("letter", letter) not in self._firsts:
                raise Letterless(letter)
        self._n = n
        self._width = width
        self._many = many
        self._words = sorted(list(self._tokens))
        self._begun = proper_prefixes(self._words)
        nexts = [begun + bit for begun in self._begun for bit in "01"]
        self._gaps = sorted([bits for bits in nexts if bits not in self._begun and bits not in self._tokens])

    @property
    def full(self):
        """True if the table has no gap."""
        return len(self._gaps) == 0

    def __len__(self):
        return len(self._words)

    def __iter__(self):
        return iter(self._words)

    def __contains__(self, x):
        return isinstance(x, str) and x in self._tokens

    def __eq__(self, other):
        return isinstance(other, Table) and self._tokens == other._tokens

    def words(self):
        """The words, ascending."""
        return list(self._words)

    def begun_words(self):
        """The begun words, ascending."""
        return sorted(list(self._begun))

    def gaps(self):
        """The gaps, ascending."""
        return list(self._gaps)

    def is_begun(self, bits):
        """True for a begun word."""
        return isinstance(bits, str) and bits in self._begun

    def token(self, word):
        """The token of the word."""
        if not isinstance(word, str) or word not in self._tokens:
            raise BadBits("not a word")
        return self._tokens[word]

    def rests(self, begun):
        """The strings that make the begun word a word, ascending."""
        if not self.is_begun(begun):
            raise BadBits("not a begun word")
        return [word[len(begun):] for word in self._words if word.startswith(begun)]

    def first_word(self, token):
        """The shortest word of the token, the least of equally short ones, or None."""
        if not is_token(token, self._n, self._width, self._many):
            raise BadToken("not a token")
        return self._firsts.get(token)

    def pairs(self):
        """The pairs in the order in which they were given."""
        return self._pairs
