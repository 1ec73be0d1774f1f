"""Patterns: the least states of standings over a window that is not known."""

from leastreader.blocks import Blocks
from leastreader.errors import BadFormat
from leastreader.letters import check_window
from leastreader.placemaps import unknown_window
from leastreader.states import answer_of, check_standing


def rest_rows(classes, standing, window, second):
    """The triples (rest, answer, class behind) of a checked standing; the window may hold any values."""
    controls = classes.reach(second=second).controls
    control, begun = standing
    number = controls.number_of(control)
    rows = []
    for rest in controls.rests(number, begun):
        plain, behind = controls.link(number, begun + rest)
        rows.append((rest, answer_of(plain, window), classes.class_of(behind, second=second)))
    return tuple(rows)


def worked_pattern(classes, standing, second):
    """The pattern of a checked standing, worked out."""
    reach = classes.reach(second=second)
    control, begun = standing
    number = reach.controls.number_of(control)
    depth = reach.depth(number, begun)
    if begun == "":
        return ("at", classes.class_of(number, second=second), depth)
    return ("in", rest_rows(classes, standing, unknown_window(reach.controls.fmt.width), second), depth)


def pattern_at(classes, standing, second):
    """The pattern of a checked standing, worked out when first needed."""
    found = classes.known.setdefault("second patterns" if second else "first patterns", {})
    if standing not in found:
        found[standing] = worked_pattern(classes, standing, second)
    return found[standing]


def pattern_of(classes, standing, *, second=False):
    """The pattern of the standing."""
    controls = classes.reach(second=second).controls
    return pattern_at(classes, check_standing(controls, standing), second)


def shape_of(pattern):
    """The shape of the pattern: it has the lengths of the outputs in the place of the outputs."""
    if pattern[0] == "at":
        return pattern
    rows = []
    for rest, answer, mark in pattern[1]:
        rows.append((rest, ("told", len(answer[1])) if answer[0] == "told" else answer, mark))
    return ("in", tuple(rows), pattern[2])


def filled_row(entries, window):
    """The entries with the letters of the window in the place of their places."""
    return tuple([window[len(window) + entry] if entry < 0 else entry for entry in entries])


def filled_pattern(pattern, window):
    """The least state that the pattern filled by the window is."""
    kept = tuple(window[len(window) - pattern[2]:])
    if pattern[0] == "at":
        return ("at", pattern[1], kept)
    rows = []
    for rest, answer, mark in pattern[1]:
        rows.append((rest, ("told", filled_row(answer[1], window)) if answer[0] == "told" else answer, mark))
    return ("in", tuple(rows), kept)


def least_at(classes, state, second):
    """The least state of a checked state; its window may hold any values."""
    return filled_pattern(pattern_at(classes, state[:2], second), state[2])


def output_entries(pattern):
    """The entries of the outputs of a pattern or of a least state, in order."""
    found = []
    if pattern[0] == "in":
        for row in pattern[1]:
            if row[1][0] == "told":
                found.extend(row[1][1])
    return found


def check_two_standings(classes, one, other, second):
    """Returns a standing of the first format and one of that which second names, as tuples.

    Raises BadFormat unless the two formats have windows of one kind.
    """
    first = classes.one
    last = classes.reach(second=second).controls
    found = (check_standing(first, one), check_standing(last, other))
    if first.fmt.n != last.fmt.n or first.fmt.width != last.fmt.width:
        raise BadFormat("the formats differ in their letters or their widths")
    return found


def alike_windows(classes, one, other, *, second=False):
    """The number of windows over which two standings are alike, and one of them; or (0, None)."""
    a, b = check_two_standings(classes, one, other, second)
    first = pattern_at(classes, a, False)
    last = pattern_at(classes, b, second)
    if shape_of(first) != shape_of(last):
        return (0, None)
    blocks = Blocks(classes.one.fmt.width, classes.one.fmt.n)
    for entry, met in zip(output_entries(first), output_entries(last)):
        if not blocks.meet(entry, met):
            return (0, None)
    return (blocks.count(), blocks.solved())


def first_unlike_rest(one, other):
    """The least rest that two sequences of triples (rest, answer, class) do not have alike, or None."""
    first = {row[0]: row for row in one}
    last = {row[0]: row for row in other}
    for rest in sorted(list(first) + list(last)):
        if first.get(rest) != last.get(rest):
            return rest
    return None


def unlike_rest(classes, one, other, window, *, second=False):
    """The least rest that only one of two standings has, or that both answer differently, or None."""
    a, b = check_two_standings(classes, one, other, second)
    now = check_window(window, classes.one.fmt.n, classes.one.fmt.width)
    return first_unlike_rest(rest_rows(classes, a, now, False), rest_rows(classes, b, now, second))
