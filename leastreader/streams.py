"""Streams: bits for tokens and tokens for bits, maps of futures, and how many streams there are."""

from leastreader.bitrows import check_bits
from leastreader.controls import ENDED, controls_of
from leastreader.errors import BadRow, BadToken, NoWord
from leastreader.letters import HOLE, check_row, check_size, is_series
from leastreader.placemaps import PlaceMap, unknown_window
from leastreader.states import after_deeds, check_future, check_standing, check_state_of, output_added
from leastreader.tokens import check_token

MOST_COUNTED = 40


def check_control(controls, control):
    """Returns the control; raises BadState unless it is reached."""
    return controls.at_number(controls.number_of(control))


def first_words_of(fmt, control, tokens):
    """The first words of the tokens, of which each must have one in the table in force, joined."""
    # The number of the table in force; the one of ENDED stands for no table.
    number = control[0]
    words = []
    for at, token in enumerate(tokens):
        check_token(token, fmt.n, fmt.width, len(fmt.recents))
        word = None if number == ENDED[0] else fmt.table(number).first_word(token)
        if word is None:
            raise NoWord(at)
        words.append(word)
        if token[0] == "turn":
            number = token[1]
        elif token[0] == "stop":
            number = ENDED[0]
    return "".join(words)


def bits_of(fmt, control, tokens):
    """The fewest bits that are read as these tokens."""
    now = check_control(controls_of(fmt), control)
    if not is_series(tokens):
        raise BadToken("not a sequence of tokens")
    return first_words_of(fmt, now, tokens)


def tokens_of(fmt, control, bits):
    """The tokens of the words that the bits complete, the bits begun at the end, and the indexes of refused bits."""
    controls = controls_of(fmt)
    number = controls.number_of(control)
    check_bits(bits)
    tokens = []
    refused = []
    begun = ""
    for at, bit in enumerate(bits):
        link = controls.link(number, begun + bit)
        if link is not None:
            tokens.append(fmt.table(controls.at_number(number)[0]).token(begun + bit))
            number = link[1]
            begun = ""
        elif controls.is_begun(number, begun + bit):
            begun = begun + bit
        else:
            refused.append(at)
    return (tokens, begun, refused)


def letters_bits(fmt, control, row):
    """The fewest bits that are read as the letters of the row."""
    now = check_control(controls_of(fmt), control)
    letters = check_row(row, fmt.n)
    if HOLE in letters:
        raise BadRow("a hole in the row")
    return first_words_of(fmt, now, [("letter", letter) for letter in letters])


def first_refused(fmt, state, bits):
    """The index of the first refused bit, or None."""
    controls = controls_of(fmt)
    now = check_state_of(controls, state)
    answers = after_deeds(controls, now, check_bits(bits))[0]
    for at, answer in enumerate(answers):
        if answer == ("refused",):
            return at
    return None


def deeds_map(fmt, standing, deeds):
    """The map of the future from the standing."""
    controls = controls_of(fmt)
    control, begun = check_standing(controls, standing)
    answers = after_deeds(controls, (control, begun, unknown_window(fmt.width)), check_future(deeds))[0]
    entries = []
    for answer in answers:
        entries.extend(output_added(answer))
    return PlaceMap(entries, fmt.width)


def bits_on(controls, number, begun):
    """The bits that a standing does not refuse, ascending, each with the number and the bits begun behind it."""
    found = []
    for bit in "01":
        link = controls.link(number, begun + bit)
        if link is not None:
            found.append((bit, link[1], ""))
        elif controls.is_begun(number, begun + bit):
            found.append((bit, number, begun + bit))
    return found


def streams_of(fmt, standing, many):
    """How many streams of so many bits there are from the standing."""
    controls = controls_of(fmt)
    control, begun = check_standing(controls, standing)
    check_size(many, 0, MOST_COUNTED)
    # How many streams lead to each standing, given by the number of its control and its bits begun.
    counts = {(controls.number_of(control), begun): 1}
    for _ in range(many):
        more = {}
        for (number, bits), count in counts.items():
            for _, behind, rest in bits_on(controls, number, bits):
                more[(behind, rest)] = more.get((behind, rest), 0) + count
        counts = more
    return sum(list(counts.values()))


def each_stream(fmt, standing, many):
    """Yields the streams of so many bits from the standing, ascending."""
    controls = controls_of(fmt)
    control, begun = check_standing(controls, standing)
    check_size(many, 0, MOST_COUNTED)
    # Streams that are still to go on, the least one last.
    waiting = [("", controls.number_of(control), begun)]
    while len(waiting) > 0:
        bits, number, rest = waiting.pop()
        if len(bits) == many:
            yield bits
        else:
            nexts = [(bits + bit, behind, left) for bit, behind, left in bits_on(controls, number, rest)]
            waiting.extend(nexts[::-1])
