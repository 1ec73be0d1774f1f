"""Nearest distances: how near the copies of a map can be."""

from leastreader.errors import Untold
from leastreader.letters import HOLE


def nearest_distances(a):
    """For each entry the nearest distance of a place, or None."""
    # Where each place stood last, counted from the first entry of the map.
    stood = {place: place for place in range(-a.width, 0)}
    found = []
    for index, entry in enumerate(a):
        if entry < 0:
            found.append(index - stood[entry])
            stood[entry] = index
        else:
            found.append(None)
    return found


def least_distance(a):
    """The least possible greatest distance of a sequence of tokens with this map."""
    span = max([distance for distance in nearest_distances(a) if distance is not None], default=0)
    if HOLE in list(a) or span > a.width:
        raise Untold("no sequence of tokens has this map")
    return span


def tokens_for(a):
    """A letter for each letter of the map, and a copy of length 1 for each place."""
    least_distance(a)
    found = []
    for entry, distance in zip(a, nearest_distances(a)):
        found.append(("letter", entry) if distance is None else ("copy", distance, 1))
    return found
