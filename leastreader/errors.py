"""The errors of the package: one class for each kind of failure, all of them ReaderErrors."""


class ReaderError(ValueError):
    """Every error that the package raises on purpose."""


class BadSize(ReaderError):
    """A number of letters, a width or another size is not an integer in its range."""


class BadRow(ReaderError):
    """The value is not a row of letters and holes."""


class BadWindow(ReaderError):
    """The value is not a window of the width."""


class BadToken(ReaderError):
    """The value is not a token, or not a sequence of tokens."""


class BadRecents(ReaderError):
    """The value is not recents for the width."""


class BadRule(ReaderError):
    """The value is not the name of a rule."""


class BadMap(ReaderError):
    """The value is not a map, or two maps do not fit together."""


class Untold(ReaderError):
    """No sequence of tokens has this map."""


class BadSign(ReaderError):
    """The value is not a sign."""


class BadTable(ReaderError):
    """The value is not a table."""


class TooFull(ReaderError):
    """The lengths leave no free word; at is the index of the first length, in order, that finds none."""

    def __init__(self, at):
        ReaderError.__init__(self, f"the length at {at} finds no free word")
        self.at = at


class Letterless(ReaderError):
    """The table has no word for some letter; letter is the least one."""

    def __init__(self, letter):
        ReaderError.__init__(self, f"the letter {letter} has no word")
        self.letter = letter


class BadFormat(ReaderError):
    """The values do not make a format, or the format is not of the kind that is needed."""


class BadBits(ReaderError):
    """The value is not bits of the kind that is needed."""


class BadDeed(ReaderError):
    """The value is not a deed."""


class BadState(ReaderError):
    """The value is not a control, a standing or a state."""


class BadClass(ReaderError):
    """The value is not the number of a class."""


class NoWord(ReaderError):
    """A token or letter of a sequence has no word; at is the index of the first one."""

    def __init__(self, at):
        ReaderError.__init__(self, f"the token at {at} has no word")
        self.at = at


class NoState(ReaderError):
    """No state has this least state."""


class BadMachine(ReaderError):
    """The value is not a machine or one of its states."""


class BadLot(ReaderError):
    """The value is not a lot."""


class BadPieces(ReaderError):
    """The value is not a stream in pieces; at is the index of the first piece that does not fit."""

    def __init__(self, at):
        ReaderError.__init__(self, f"the piece at {at} does not fit")
        self.at = at


class NotAllowed(ReaderError):
    """The format does not allow restarts."""


class BadName(ReaderError):
    """No head has this name, or it is no name."""


class NotDone(ReaderError):
    """Fewer deeds were taken than are to be undone."""


class Abandoned(ReaderError):
    """A trial was abandoned."""


class TooLarge(ReaderError):
    """A limit for which an error is named is exceeded; limit is that limit."""

    def __init__(self, limit):
        ReaderError.__init__(self, f"more than {limit}")
        self.limit = limit
