"""States of readers, the deeds that they take, and the answers that they give."""

from leastreader.controls import controls_of
from leastreader.errors import BadDeed, BadState, BadWindow
from leastreader.letters import HOLE, check_window, is_series, moved_on
from leastreader.telling import told_row
from leastreader.tokens import written

DEEDS = ("0", "1", "restart", "loss")

# The first word of the answer that a word gets, by the first word of its resolved token.
ANSWER_WORDS = {"letter": "told", "copy": "told", "turn": "turned", "stop": "stopped"}


def check_standing(controls, standing):
    """Returns the standing as a tuple."""
    if not is_series(standing) or len(standing) != 2:
        raise BadState("not a standing")
    control, begun = standing
    if not controls.is_begun(controls.number_of(control), begun):
        raise BadState("not a begun word")
    return (control, begun)


def check_state_of(controls, state):
    """Returns the state as a tuple, its window as a tuple."""
    if not is_series(state) or len(state) != 3:
        raise BadState("not a state")
    control, begun = check_standing(controls, state[:2])
    try:
        window = check_window(state[2], controls.fmt.n, controls.fmt.width)
    except BadWindow:
        raise BadState("not a window of the format") from None
    return (control, begun, window)


def start_state(fmt, window):
    """The start over the window."""
    return ((0, fmt.recents), "", check_window(window, fmt.n, fmt.width))


def check_state(fmt, state):
    """Returns the state as a tuple, its window as a tuple."""
    return check_state_of(controls_of(fmt), state)


def check_deed(deed):
    """Returns the deed."""
    if deed not in DEEDS:
        raise BadDeed("not a deed")
    return deed


def check_future(deeds):
    """Returns the deeds of a future as a list."""
    if isinstance(deeds, str):
        if not all([deed in ("0", "1") for deed in deeds]):
            raise BadDeed("not bits")
        return list(deeds)
    if not is_series(deeds):
        raise BadDeed("not a future")
    return [check_deed(deed) for deed in deeds]


def answer_of(plain, window):
    """The answer to the last bit of a word with this resolved token; the window may hold any values."""
    word = ANSWER_WORDS[plain[0]]
    if word == "told":
        return ("told", told_row(plain, window))
    return (word,)


def after_bit(controls, state, bit):
    """The answer to a bit and the state behind it; nothing is checked, and the window may hold any values."""
    control, begun, window = state
    number = controls.number_of(control)
    bits = begun + bit
    link = controls.link(number, bits)
    if link is not None:
        answer = answer_of(link[0], window)
        return (answer, (controls.at_number(link[1]), "", moved_on(window, output_added(answer))))
    if controls.is_begun(number, bits):
        return (("taken",), (control, bits, window))
    return (("refused",), state)


def after_deed(controls, state, deed):
    """The answer to a deed and the state behind it; nothing is checked, and the window may hold any values."""
    if deed in ("0", "1"):
        return after_bit(controls, state, deed)
    if not controls.fmt.restarts:
        return (("refused",), state)
    answer = ("restarted",) if deed == "restart" else ("lost",)
    return (answer, (controls.at_number(0), "", moved_on(state[2], output_added(answer))))


def output_added(answer):
    """What an answer adds to the output: a row, a hole for a loss, or nothing."""
    if answer[0] == "told":
        return answer[1]
    if answer[0] == "lost":
        return (HOLE,)
    return ()


def after_deeds(controls, state, deeds):
    """The list of the answers to the deeds and the state behind them; nothing is checked."""
    answers = []
    now = state
    for deed in deeds:
        answer, now = after_deed(controls, now, deed)
        answers.append(answer)
    return (answers, now)


def done(fmt, state, deed):
    """The answer to the deed and the state behind it."""
    controls = controls_of(fmt)
    now = check_state_of(controls, state)
    return after_deed(controls, now, check_deed(deed))


def shown_answer(answer):
    """The written form of an answer."""
    if answer[0] == "told":
        return written(answer[:1] + tuple(answer[1]))
    return answer[0]
