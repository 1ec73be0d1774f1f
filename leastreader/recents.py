"""Recent distances: the rules by which they move, and the fewest moves from one order to another."""

from leastreader.errors import BadRecents, BadRule, BadToken
from leastreader.letters import MOST_WIDTH, check_width, is_series, is_within
from leastreader.tokens import MOST_RECENTS, check_many

COPIED_RULES = ("front", "push", "keep")
AGAIN_RULES = ("front", "push", "swap", "keep")


def check_recents(recents, width):
    """Returns the recents as a tuple."""
    check_width(width)
    if not is_series(recents) or len(recents) > MOST_RECENTS:
        raise BadRecents("not recents")
    if not all([is_within(distance, 1, width) for distance in recents]):
        raise BadRecents("not recents for the width")
    return tuple(recents)


def check_unlike_recents(recents):
    """Returns recents of the greatest width, no two of them equal, as a tuple."""
    found = check_recents(recents, MOST_WIDTH)
    if len(set(found)) < len(found):
        raise BadRecents("two recents are equal")
    return found


def check_copied(rule):
    """Returns the rule called copied."""
    if rule not in COPIED_RULES:
        raise BadRule("not a rule called copied")
    return rule


def check_again(rule):
    """Returns the rule called again."""
    if rule not in AGAIN_RULES:
        raise BadRule("not a rule called again")
    return rule


def copy_moved(recents, distance, rule):
    """The recents behind a copy; nothing is checked."""
    if rule == "keep" or len(recents) == 0:
        return recents
    if rule == "front" and distance in recents:
        return again_moved(recents, recents.index(distance), "front")
    return (distance,) + recents[:-1]


def again_moved(recents, index, rule):
    """The recents behind an again with step 0; nothing is checked, and the recents may be any values."""
    first = recents[index:index + 1]
    if rule == "front":
        return first + recents[:index] + recents[index + 1:]
    if rule == "push":
        return first + recents[:-1]
    if rule == "swap" and index > 0:
        return recents[:index - 1] + first + recents[index - 1:index] + recents[index + 1:]
    return recents


def after_copy(recents, distance, rule):
    """The recents behind a copy of this distance."""
    found = check_recents(recents, MOST_WIDTH)
    check_copied(rule)
    if not is_within(distance, 1, MOST_WIDTH):
        raise BadToken("not a distance")
    return copy_moved(found, distance, rule)


def after_again(recents, index, rule):
    """The recents behind an again with this index and step 0."""
    found = check_recents(recents, MOST_WIDTH)
    check_again(rule)
    if not is_within(index, 0, len(found) - 1):
        raise BadToken("not an index of the recents")
    return again_moved(found, index, rule)


def moved_order(many, rule, indexes):
    """The order that agains with these indexes make of the tuple 0, 1, .. of so many."""
    check_many(many)
    check_again(rule)
    if not is_series(indexes) or not all([is_within(index, 0, many - 1) for index in indexes]):
        raise BadToken("not indexes of the recents")
    order = tuple(range(many))
    for index in indexes:
        order = again_moved(order, index, rule)
    return order


def last_used(start, used):
    """The distances last used, each once, and then those of the start: as many as the start has."""
    first = check_unlike_recents(start)
    if not is_series(used) or not all([is_within(distance, 1, MOST_WIDTH) for distance in used]):
        raise BadToken("not distances")
    found = []
    for distance in tuple(used)[::-1] + first:
        if distance not in found:
            found.append(distance)
    return tuple(found[:len(first)])


def front_moves(before, after):
    """The fewest agains by the rule "front"."""
    kept = 0
    for distance in before[::-1]:
        if distance == after[len(after) - 1 - kept]:
            kept += 1
    moves = []
    order = before
    for distance in after[:len(after) - kept][::-1]:
        index = order.index(distance)
        moves.append(index)
        order = again_moved(order, index, "front")
    return moves


def swap_moves(before, after):
    """The fewest agains by the rule "swap"."""
    moves = []
    order = before
    for goal, distance in enumerate(after):
        for index in range(order.index(distance), goal, -1):
            moves.append(index)
            order = again_moved(order, index, "swap")
    return moves


def push_moves(before, after):
    """The fewest agains by the rule "push", or None."""
    for turned in range(len(before)):
        cut = len(before) - turned
        if after == before[cut:] + before[:cut]:
            return [len(before) - 1] * turned
    return None


def fewest_moves(before, after, rule):
    """The indexes of the fewest agains with step 0 that turn before into after, or None."""
    first = check_unlike_recents(before)
    last = check_unlike_recents(after)
    if sorted(first) != sorted(last):
        raise BadRecents("not a reordering")
    check_again(rule)
    if first == last:
        return []
    if rule == "front":
        return front_moves(first, last)
    if rule == "swap":
        return swap_moves(first, last)
    if rule == "push":
        return push_moves(first, last)
    return None
