"""Least states: what a state must hold, and states that hold just that."""

from leastreader.errors import NoState
from leastreader.letters import HOLE, is_entry, is_whole
from leastreader.patterns import least_at, output_entries, pattern_at, shape_of
from leastreader.states import check_state_of


def least_state(classes, state, *, second=False):
    """The least state of the state."""
    return least_at(classes, check_state_of(classes.reach(second=second).controls, state), second)


def kept_letters(held):
    """How many entries of the window the least state keeps."""
    return len(held[2])


def has_answer_form(value):
    """True for what looks like an answer."""
    if not isinstance(value, tuple) or len(value) == 0 or not isinstance(value[0], str):
        return False
    if value[0] == "told":
        return len(value) == 2 and isinstance(value[1], tuple)
    return len(value) == 1


def has_rest_form(value):
    """True for what looks like a triple (rest, answer, class)."""
    if not isinstance(value, tuple) or len(value) != 3:
        return False
    return isinstance(value[0], str) and has_answer_form(value[1]) and is_whole(value[2])


def has_least_form(value):
    """True for what looks like a least state, whatever the entries of its rows are."""
    if not isinstance(value, tuple) or len(value) != 3 or not isinstance(value[2], tuple):
        return False
    if value[0] not in ("at", "in"):
        return False
    if value[0] == "at":
        return is_whole(value[1])
    return isinstance(value[1], tuple) and all([has_rest_form(row) for row in value[1]])


def shapes_of(classes, second):
    """For each shape the pairs (standing, pattern) of the reached standings that have it, in their order."""
    key = "second shapes" if second else "first shapes"
    if key not in classes.known:
        controls = classes.reach(second=second).controls
        found = {}
        for number, control in enumerate(controls):
            for begun in controls.begun_words(number):
                pattern = pattern_at(classes, (control, begun), second)
                found.setdefault(shape_of(pattern), []).append(((control, begun), pattern))
        classes.known[key] = found
    return classes.known[key]


def fitting_window(pattern, held, fmt):
    """The window that fills the pattern to the least state, with holes elsewhere, or None; the shapes are equal."""
    entries = output_entries(pattern) + list(range(-pattern[2], 0))
    values = output_entries(held) + list(held[2])
    places = {}
    for entry, value in zip(entries, values):
        known = places.setdefault(entry, value) if entry < 0 else entry
        if known != value or not is_entry(value, fmt.n):
            return None
    return tuple([places.get(entry, HOLE) for entry in range(-fmt.width, 0)])


def state_or_none(classes, held, second):
    """The first state of the format with this least state, or None; held may be any value."""
    if not has_least_form(held):
        return None
    shape = shape_of((held[0], held[1], len(held[2])))
    for standing, pattern in shapes_of(classes, second).get(shape, []):
        window = fitting_window(pattern, held, classes.reach(second=second).controls.fmt)
        if window is not None:
            return standing + (window,)
    return None


def state_with(classes, held, *, second=False):
    """The first state of the format with this least state."""
    classes.reach(second=second)
    state = state_or_none(classes, held, second)
    if state is None:
        raise NoState("no state has this least state")
    return state


def any_state_with(classes, held):
    """The first state with this least state and True if it is one of the second format."""
    state = state_or_none(classes, held, False)
    if state is not None:
        return (state, False)
    if classes.other is None:
        raise NoState("no state has this least state")
    return (state_with(classes, held, second=True), True)
