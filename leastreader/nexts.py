"""On from a least state: the answers to deeds, and the least states behind them."""

from leastreader.leasts import any_state_with, least_state
from leastreader.states import after_deeds, check_deed, check_future


def taken_on(classes, state, second, deeds):
    """The answers to the deeds from the state, and the least state behind them."""
    controls = classes.reach(second=second).controls
    answers, behind = after_deeds(controls, state, deeds)
    return (answers, least_state(classes, behind, second=second))


def next_least(classes, held, deed):
    """The answer to the deed of the states with this least state, and the least state behind it."""
    state, second = any_state_with(classes, held)
    answers, behind = taken_on(classes, state, second, [check_deed(deed)])
    return (answers[0], behind)


def least_behind(classes, held, deeds):
    """The answers to the future of the states with this least state, and the least state behind it."""
    state, second = any_state_with(classes, held)
    return taken_on(classes, state, second, check_future(deeds))
