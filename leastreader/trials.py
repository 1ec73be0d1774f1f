"""Trials: what a desk does within a block and has not done behind it."""

from leastreader.errors import Abandoned, BadDeed
from leastreader.letters import is_series
from leastreader.states import check_future

ACT_WORDS = ("undo", "keep", "go on", "forget")


class Trial:
    """A trial on a desk: when its block ends, the desk is as it was when the block was entered."""

    def __init__(self, desk):
        self.desk = desk
        self.old_now = None
        self.old_row = None
        self.old_past = None
        self.old_shelf = None

    def __enter__(self):
        desk = self.desk
        self.old_now = desk.now
        self.old_row = list(desk.row)
        self.old_past = list(desk.past)
        self.old_shelf = {name: desk.shelf[name] for name in desk.shelf}
        return desk

    def __exit__(self, kind, value, trace):
        desk = self.desk
        desk.now = self.old_now
        desk.row = self.old_row
        desk.past = self.old_past
        desk.shelf = self.old_shelf


def do_act(desk, act):
    """Lets the desk do the act; returns the answer to a deed, None for another act."""
    if isinstance(act, str):
        return desk.take(act)
    if not isinstance(act, tuple) or len(act) != 2 or act[0] not in ACT_WORDS:
        raise BadDeed("not an act")
    if act[0] == "undo":
        desk.undo(act[1])
    elif act[0] == "keep":
        desk.keep(act[1])
    elif act[0] == "go on":
        desk.go_on(act[1])
    else:
        desk.forget(act[1])
    return None


def tried(desk, acts):
    """The answers to the acts, done within a trial; None for each act that is no deed."""
    if not is_series(acts):
        raise BadDeed("not a sequence of acts")
    found = []
    with Trial(desk) as held:
        for act in acts:
            found.append(do_act(held, act))
    return found


def abandoned(desk, deeds):
    """Lets the desk take the deeds within a trial that ends by an error."""
    taken = check_future(deeds)
    with Trial(desk) as held:
        held.feed(taken)
        raise Abandoned("a trial was abandoned")
