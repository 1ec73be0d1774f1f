"""Counts: how many states the least machine has, without the machine itself."""

from leastreader.classes import classes_of
from leastreader.errors import TooLarge
from leastreader.leasts import shapes_of
from leastreader.letters import check_letters, power
from leastreader.patterns import output_entries

MOST_PATTERNS = 10


def beginnings(fmt):
    """The number of least states without bits begun."""
    classes = classes_of(fmt)
    found = 0
    for mark in range(classes.count()):
        found += power(fmt.n, classes.reach().of(classes.members(mark)[0][1]))
    return found


def shapes(fmt):
    """The pairs (shape, list of different patterns) of the standings with bits begun."""
    found = []
    for shape, pairs in shapes_of(classes_of(fmt), False).items():
        if shape[0] == "in":
            found.append((shape, list({pattern: True for _, pattern in pairs})))
    return found


def entries_of(pattern):
    """The entries of a pattern: those of its outputs, then its kept places, the oldest first."""
    return output_entries(pattern) + list(range(-pattern[2], 0))


def own_marks(entries):
    """For each different entry a mark of its own: a letter for itself, a place for itself."""
    return {entry: entry for entry in entries}


def links_between(entries, others):
    """For each entry of the second pattern the different entries of the first one that it meets."""
    found = {}
    for entry, other in zip(entries, others):
        met = found.setdefault(other, {})
        met[entry] = True
    return [(other, list(met)) for other, met in found.items()]


def joined_marks(marks, links):
    """The marks of a first pattern's entries once a second pattern joins them, or None if no letters fit.

    Equal marks are one block; a mark of at least 0 is the letter of its block.
    """
    found = marks
    for other, met in links:
        blocks = {found[entry]: True for entry in met}
        if other >= 0:
            blocks[other] = True
        # The greatest mark stays, so that a block has its letter as its mark.
        block, *more = sorted(list(blocks), reverse=True)
        if len([mark for mark in more if mark >= 0]) > 0:
            return None
        if len(more) > 0:
            found = {entry: block if mark in blocks else mark for entry, mark in found.items()}
    return found


def free_count(marks, n):
    """The number of sequences of n letters with these marks."""
    return power(n, len({mark for mark in marks.values() if mark < 0}))


def common(patterns, n):
    """The number of sequences of n letters that fit all the patterns."""
    check_letters(n)
    entries = entries_of(patterns[0])
    marks = own_marks(entries)
    for pattern in patterns[1:]:
        marks = joined_marks(marks, links_between(entries, entries_of(pattern)))
        if marks is None:
            return 0
    return free_count(marks, n)


def signed_count(marks, links, n):
    """What the choices of a first pattern, met by these marks, and any of the later ones add to the count."""
    found = free_count(marks, n)
    for at, link in enumerate(links):
        more = joined_marks(marks, link)
        # Where no letters fit, none fit further patterns either.
        if more is not None:
            found -= signed_count(more, links[at + 1:], n)
    return found


def fitting_count(patterns, n):
    """The number of sequences of n letters that fit at least one of the patterns, which have one shape."""
    rows = [entries_of(pattern) for pattern in patterns]
    found = 0
    for at, entries in enumerate(rows):
        links = [links_between(entries, others) for others in rows[at + 1:]]
        found += signed_count(own_marks(entries), links, n)
    return found


def begun_count(fmt):
    """The number of least states with bits begun."""
    found = shapes(fmt)
    if not all([len(patterns) <= MOST_PATTERNS for _, patterns in found]):
        raise TooLarge(MOST_PATTERNS)
    return sum([fitting_count(patterns, fmt.n) for _, patterns in found])


def least_count(fmt):
    """The number of states of the least machine."""
    return beginnings(fmt) + begun_count(fmt)
