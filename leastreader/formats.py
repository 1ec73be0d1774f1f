"""Formats: letters, windows, recents with their rules, tables, and whether restarts are allowed."""

from leastreader.errors import BadFormat, BadTable, ReaderError
from leastreader.letters import check_letters, check_width, is_series, is_within
from leastreader.recents import check_again, check_copied, check_recents
from leastreader.signs import read_sign, shown_sign
from leastreader.tables import Table
from leastreader.tokens import MOST_TABLES, read_number, written

HEAD_LINES = 6


def read_pair(line):
    """The pair (sign, length) of a line."""
    parts = line.partition(" ")
    return (read_sign(parts[2]), read_number(parts[0]))


def read_tables(lines):
    """The lists of the pairs of the tables whose lines these are."""
    found = []
    for line in lines:
        if line.startswith("table"):
            found.append([])
        elif len(found) == 0:
            raise BadFormat("a pair ahead of the first table")
        else:
            found[-1].append(read_pair(line))
    return found


def head_lines(n, width, recents, copied, again, restarts):
    """The lines of a format ahead of its tables, a tuple."""
    return (
        f"letters {n}",
        f"width {width}",
        written(("recents",) + recents),
        f"copied {copied}",
        f"again {again}",
        "restarts yes" if restarts else "restarts no")


class Format:
    """A format; its parts do not change."""

    def __init__(self, n, width, *, recents=(), copied="front", again="front", tables, restarts=False):
        self._n = check_letters(n)
        self._width = check_width(width)
        self._recents = check_recents(recents, width)
        self._copied = check_copied(copied)
        self._again = check_again(again)
        if not isinstance(restarts, bool):
            raise BadFormat("restarts is neither True nor False")
        if not is_series(tables) or not 1 <= len(tables) <= MOST_TABLES:
            raise BadFormat("not 1 to 6 tables")
        self._restarts = restarts
        # Two formats agree in all but their tables exactly if these lines do.
        self._head = head_lines(n, width, self._recents, copied, again, restarts)
        many = len(self._recents)
        self._tables = tuple([Table(rows, n=n, width=width, many=many, tables=len(tables)) for rows in tables])
        # Functions that take a format need its reached controls and their classes again and again; controls_of and
        # classes_of keep them here.
        self.known_controls = None
        self.known_classes = None

    @classmethod
    def read(cls, lines):
        """The format whose lines these are."""
        if not is_series(lines) or not all([isinstance(line, str) for line in lines]):
            raise BadFormat("not a sequence of strings")
        if len(lines) < HEAD_LINES:
            raise BadFormat("too few lines")
        n, width, start, copied, again, restarts = [line.partition(" ")[2] for line in lines[:HEAD_LINES]]
        try:
            made = cls(
                read_number(n), read_number(width), recents=[read_number(part) for part in start.split()],
                copied=copied, again=again, restarts=restarts == "yes", tables=read_tables(lines[HEAD_LINES:]))
        except ReaderError:
            raise BadFormat("not the lines of a format") from None
        # What was read must be written exactly so: no other word, blank, order or number.
        if made.shown() != list(lines):
            raise BadFormat("not exactly the lines of a format")
        return made

    @property
    def n(self):
        """The number of letters."""
        return self._n

    @property
    def width(self):
        """The width of the windows."""
        return self._width

    @property
    def recents(self):
        """The recents at the start."""
        return self._recents

    @property
    def copied(self):
        """The rule called copied."""
        return self._copied

    @property
    def again_rule(self):
        """The rule called again."""
        return self._again

    @property
    def restarts(self):
        """True if restarts are allowed."""
        return self._restarts

    def __len__(self):
        return len(self._tables)

    def __eq__(self, other):
        return isinstance(other, Format) and self._head == other._head and self._tables == other._tables

    def table(self, number):
        """The table with this number."""
        if not is_within(number, 0, len(self._tables) - 1):
            raise BadTable("not the number of a table")
        return self._tables[number]

    def shown(self):
        """The lines of the format."""
        found = list(self._head)
        for number, table in enumerate(self._tables):
            found.append(f"table {number}")
            for sign, length in table.pairs():
                found.append(f"{length} {shown_sign(sign)}")
        return found
