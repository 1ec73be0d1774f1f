"""Free words: the strings of bits that lengths take, one behind the other."""

from leastreader.errors import BadBits, BadTable, TooFull
from leastreader.letters import is_series, is_within

LONGEST = 10
LONGEST_SUMMED = 16

# 2 ** 10: how many strings of the greatest length there are; a word of a length m takes 2 ** (10 - m) of them.
WHOLE = 1024


def in_bits(number, many):
    """The number written in so many bits, the highest first."""
    return "".join(["1" if (number >> at) & 1 == 1 else "0" for at in range(many - 1, -1, -1)])


def is_bits(value):
    """True for a string of the characters 0 and 1, also for the empty one."""
    return isinstance(value, str) and all([bit in "01" for bit in value])


def check_lengths(lengths, longest):
    """Raises BadTable unless there is a tuple or a list of lengths."""
    if not is_series(lengths) or not all([is_within(length, 1, longest) for length in lengths]):
        raise BadTable("not lengths")


def in_order(lengths):
    """The pairs (length, index) in the order in which words are taken."""
    return sorted([(length, index) for index, length in enumerate(lengths)])


def free_words(lengths):
    """The free word of each length."""
    check_lengths(lengths, LONGEST)
    found = [""] * len(lengths)
    taken = 0
    for length, index in in_order(lengths):
        share = WHOLE >> length
        if taken + share > WHOLE:
            raise TooFull(index)
        # All words so far are at most as long, so what they take is a multiple of this share.
        found[index] = in_bits(taken // share, length)
        taken = taken + share
    return found


def lengths_back(words):
    """The lengths whose free words these are and None; or None and the first index that does not fit."""
    if not is_series(words) or not all([is_bits(word) for word in words]):
        raise BadBits("not a sequence of bits")
    lengths = [len(word) for word in words]
    if not all([1 <= length <= LONGEST for length in lengths]):
        raise BadBits("not of 1 to 10 bits")
    taken = 0
    for length, index in in_order(lengths):
        share = WHOLE >> length
        if taken + share > WHOLE or words[index] != in_bits(taken // share, length):
            return (None, index)
        taken = taken + share
    return (lengths, None)


def sums(lengths):
    """The sum of 2 ** -length as a pair of integers, the second one 2 ** (the greatest length)."""
    check_lengths(lengths, LONGEST_SUMMED)
    greatest = max(lengths, default=0)
    return (sum([1 << (greatest - length) for length in lengths]), 1 << greatest)
