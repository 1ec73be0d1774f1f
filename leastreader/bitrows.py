"""Rows of bits: how a table splits them into words, and where two tables part."""

from leastreader.errors import BadBits
from leastreader.words import is_bits


def check_bits(bits):
    """Returns the bits."""
    if not is_bits(bits):
        raise BadBits("not bits")
    return bits


def split_bits(table, bits):
    """The words and the begun word behind them and None; or the words, a gap and the index of its last bit."""
    check_bits(bits)
    words = []
    begun = ""
    for at, bit in enumerate(bits):
        begun = begun + bit
        if begun in table:
            words.append(begun)
            begun = ""
        elif not table.is_begun(begun):
            return (words, begun, at)
    return (words, begun, None)


def treatment(table, bits):
    """How the table treats bits whose proper prefixes are begun words: its token, or if they are begun."""
    if bits in table:
        return table.token(bits)
    return table.is_begun(bits)


def parting_bits(one, other):
    """The first bits that two tables do not treat alike, or None."""
    common = [begun for begun in one.begun_words() if other.is_begun(begun)]
    nexts = [begun + bit for begun in common for bit in "01"]
    unlike = [(len(bits), bits) for bits in nexts if treatment(one, bits) != treatment(other, bits)]
    if len(unlike) == 0:
        return None
    return min(unlike)[1]
