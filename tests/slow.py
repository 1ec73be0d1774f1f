"""A slow view of formats, made of the words of the points 46 to 71, and formats to look at."""

import itertools
import random

from helpers import AGAIN, COPIED, slow_again, slow_copied, slow_spread, slow_words, some_recents, some_rows
from leastreader.errors import ReaderError
from leastreader.formats import Format

END = (-1, ())
DEEDS = ("0", "1", "restart", "loss")

# Formats by name, written as their n, their width and the rest.
LETTERS = [(("letter", 0, 0), 1), (("letter", 1, 0), 1)]
COPIES = [(("letter", 0, 1), 1), (("copy", 1, 1, 1, 0), 1)]
STOPS = [(("letter", 0, 0), 2), (("letter", 1, 0), 2), (("copy", 2, 0, 2, 0), 2), (("stop",), 2)]
GAPS = [(("letter", 0, 0), 2), (("letter", 1, 0), 3), (("copy", 3, 0, 2, 1), 2)]


def some_format(dice, *, n=(2,), width=(1, 4), many=(0, 3), tables=(1, 3), pairs=3, restarts=(True, False)):
    """A format; ReaderError if a table has come out too large."""
    n, width, many = dice.choice(n), dice.randint(*width), dice.randint(*many)
    count = dice.randint(*tables)
    return Format(
        n, width, recents=some_recents(dice, width, many), copied=dice.choice(COPIED), again=dice.choice(AGAIN),
        tables=[some_rows(dice, n, width, many, count, pairs=pairs) for _ in range(count)],
        restarts=dice.choice(restarts))


def some_formats(seed, count, *, most=150, **named):
    """So many formats with at most so many reached controls, always the same ones for one seed."""
    dice = random.Random(seed)
    made = 0
    while made < count:
        try:
            fmt = some_format(dice, **named)
        except ReaderError:
            continue
        if len(slow_controls(fmt, most + 1)) <= most:
            made += 1
            yield fmt


def remade(fmt, **changed):
    """The format with other parts."""
    named = {
        "recents": fmt.recents, "copied": fmt.copied, "again": fmt.again_rule, "restarts": fmt.restarts,
        "tables": [fmt.table(number).pairs() for number in range(len(fmt))]}
    n, width = changed.pop("n", fmt.n), changed.pop("width", fmt.width)
    return Format(n, width, **{**named, **changed})


def slow_table(fmt, number, _kept={}):
    """The words of a table with their tokens, ascending."""
    rows = fmt.table(number).pairs()
    if rows not in _kept:
        _kept[rows] = slow_words(rows)
    return _kept[rows]


def slow_at(fmt, control):
    """The words at a control with their tokens."""
    return {} if control == END else slow_table(fmt, control[0])


def slow_resolved(fmt, token, recents):
    if token[0] == "again":
        return ("copy", 1 + (recents[token[1]] - 1 + token[2]) % fmt.width, token[3])
    return ("turn",) if token[0] == "turn" else token


def slow_link(fmt, control, word):
    """The resolved token of a word at a control, and the control behind it."""
    token = slow_at(fmt, control)[word]
    plain = slow_resolved(fmt, token, control[1])
    if token[0] == "stop":
        return plain, END
    if token[0] == "turn":
        return plain, (token[1], control[1])
    if token[0] == "again" and token[2] == 0:
        return plain, (control[0], slow_again(control[1], token[1], fmt.again_rule))
    if plain[0] == "copy":
        return plain, (control[0], slow_copied(control[1], plain[1], fmt.copied))
    return plain, control


def slow_links(fmt, control):
    """The resolved tokens and the controls behind of all words at a control."""
    kept = vars(fmt).setdefault("slow_links", {})
    if control not in kept:
        kept[control] = {word: slow_link(fmt, control, word) for word in slow_at(fmt, control)}
    return kept[control]


def slow_controls(fmt, most=10 ** 6):
    """The reached controls in their order, each with its way; no more than so many."""
    ways = {(0, fmt.recents): []}
    queue = list(ways)
    for control in queue:
        for word, (_, behind) in slow_links(fmt, control).items():
            if behind not in ways:
                ways[behind] = ways[control] + [word]
                queue.append(behind)
        if len(ways) > most:
            break
    return ways


def slow_count(plain):
    return {"letter": 1, "copy": plain[-1]}.get(plain[0], 0)


def slow_steps(fmt, control):
    """Triples (step, resolved token or None, control behind) of the steps of walks."""
    found = [(word, plain, behind) for word, (plain, behind) in slow_links(fmt, control).items()]
    return found + [("restart", None, (0, fmt.recents))] * fmt.restarts


def taken_walk(fmt, control, steps):
    """The resolved tokens of the steps of a walk and the control behind it; KeyError if it is no walk."""
    tokens = []
    for step in steps:
        if step == "restart":
            if not fmt.restarts:
                raise KeyError(step)
            control = (0, fmt.recents)
        else:
            plain, control = slow_links(fmt, control)[step]
            tokens.append(plain)
    return tokens, control


def slow_reach(fmt, control):
    """The reach, and the number of steps of a shortest walk that shows it; (0, 0) if there is none."""
    kept = vars(fmt).setdefault("slow_reaches", {})
    if control not in kept:
        kept[control] = searched_reach(fmt, control)
    return kept[control]


def searched_reach(fmt, control):
    best, layer, seen, steps = (0, 0), {(control, 0)}, set(), 0
    while layer:
        steps += 1
        seen |= layer
        following = set()
        for now, told in layer:
            for _, plain, behind in slow_steps(fmt, now):
                if plain is not None and plain[0] == "copy" and plain[1] - told > best[0]:
                    best = (plain[1] - told, steps)
                more = told + (0 if plain is None else slow_count(plain))
                if more < fmt.width:
                    following.add((behind, more))
        layer = following - seen
    return best


def slow_begun(fmt, control):
    return sorted({word[:k] for word in slow_at(fmt, control) for k in range(len(word))} | {""})


def slow_rests(fmt, control, begun):
    return sorted(word[len(begun):] for word in slow_at(fmt, control) if word.startswith(begun))


def slow_needs(fmt, control, begun):
    """The places that some walk from a standing outputs."""
    found, layer, seen = set(), {(control, 0)}, set()
    if begun:
        layer = {((0, fmt.recents), 0)} if fmt.restarts else set()
        for rest in slow_rests(fmt, control, begun):
            plain, behind = slow_link(fmt, control, begun + rest)
            found |= copied_places(plain, 0)
            layer.add((behind, slow_count(plain)))
    while layer:
        seen |= layer
        following = set()
        for now, told in layer:
            for _, plain, behind in slow_steps(fmt, now):
                if plain is not None:
                    found |= copied_places(plain, told)
                following.add((behind, min(24, told + (0 if plain is None else slow_count(plain)))))
        layer = following - seen
    return sorted(found)


def copied_places(plain, told):
    """The places that a resolved token outputs behind so many letters."""
    if plain[0] != "copy":
        return set()
    return {plain[1] - told - k for k in range(min(plain[1], plain[2])) if plain[1] - told - k > 0}


def slow_standings(fmt):
    return [(control, begun) for control in slow_controls(fmt) for begun in slow_begun(fmt, control)]


def differ_at_once(one, a, other, b):
    if one.restarts != other.restarts:
        return True
    first, last = slow_links(one, a), slow_links(other, b)
    return {word: link[0] for word, link in first.items()} != {word: link[0] for word, link in last.items()}


def lacks_at_once(one, a, other, b):
    """True if this pair shows that a is not covered."""
    first, last = slow_links(one, a), slow_links(other, b)
    return one.restarts and not other.restarts or any(
        word not in last or last[word][0] != link[0] for word, link in first.items())


def slow_walk(one, a, other, b, shows):
    """The number of steps of a shortest walk from both to two controls that show something, or None."""
    layer, seen, steps = {(a, b)}, set(), 0
    while layer:
        if any(shows(one, x, other, y) for x, y in layer):
            return steps
        seen |= layer
        following = set()
        for x, y in layer:
            last = slow_links(other, y)
            for word, (plain, behind) in slow_links(one, x).items():
                if word in last and last[word][0] == plain:
                    following.add((behind, last[word][1]))
            if one.restarts and other.restarts:
                following.add(((0, one.recents), (0, other.recents)))
        layer = following - seen
        steps += 1
    return None


def slow_deed(fmt, state, deed):
    """The answer to a deed and the state behind it; the window is any tuple."""
    control, begun, window = state
    words = slow_at(fmt, control)
    if deed in "01":
        bits = begun + deed
        if bits in words:
            plain, behind = slow_link(fmt, control, bits)
            if plain[0] in ("letter", "copy"):
                now = list(window)
                for _ in range(slow_count(plain)):
                    now.append(plain[1] if plain[0] == "letter" else now[-plain[1]])
                return ("told", tuple(now[len(window):])), (behind, "", tuple(now[-len(window):]))
            return ({"turn": "turned", "stop": "stopped"}[plain[0]],), (behind, "", window)
        if any(word.startswith(bits) for word in words):
            return ("taken",), (control, bits, window)
        return ("refused",), state
    if not fmt.restarts:
        return ("refused",), state
    if deed == "restart":
        return ("restarted",), ((0, fmt.recents), "", window)
    return ("lost",), ((0, fmt.recents), "", window[1:] + (99,))


def slow_deeds(fmt, state, deeds):
    answers = []
    for deed in deeds:
        answer, state = slow_deed(fmt, state, deed)
        answers.append(answer)
    return answers, state


def slow_output(answers):
    """The output that the answers tell, with a hole for each loss."""
    return [entry for answer in answers for entry in {"told": answer[-1], "lost": (99,)}.get(answer[0], ())]


def unknown(width):
    return tuple(range(-width, 0))


def slow_map(fmt, standing, deeds):
    return slow_output(slow_deeds(fmt, tuple(standing) + (unknown(fmt.width),), deeds)[0])


def all_states(fmt, *, holes=True):
    """All states of a small format."""
    letters = tuple(range(fmt.n)) + (99,) * holes
    windows = list(itertools.product(letters, repeat=fmt.width))
    return [standing + (window,) for standing in slow_standings(fmt) for window in windows]


def some_state(dice, fmt, standings=None, *, holes=True):
    letters = list(range(fmt.n)) + [99] * holes
    standing = dice.choice(standings or slow_standings(fmt))
    return standing + (tuple(dice.choice(letters) for _ in range(fmt.width)),)


def some_deeds(dice, count, deeds=("0", "1", "0", "1", "0", "1", "restart", "loss")):
    return [dice.choice(deeds) for _ in range(count)]


def written_tokens(dice, fmt, control, many):
    """Tokens that can be written from the control."""
    tokens, j = [], control[0]
    for _ in range(many):
        if j >= 0:
            tokens.append(dice.choice(list(slow_table(fmt, j).values())))
            j = {"turn": tokens[-1][-1], "stop": -1}.get(tokens[-1][0], j)
    return tokens


def slow_blocks(sides):
    """For each pair (side, state) of the states of some small formats a number; equal ones for alike states."""
    states = [(side, state) for side, fmt in enumerate(sides) for state in all_states(fmt)]
    moves = {}
    for side, state in states:
        done = [slow_deed(sides[side], state, deed) for deed in DEEDS]
        moves[side, state] = [answer for answer, _ in done], [(side, behind) for _, behind in done]
    blocks, count = {key: 0 for key in states}, 0
    while len(set(blocks.values())) > count:
        count = len(set(blocks.values()))
        numbers = {}
        keys = {key: (blocks[key], str(moves[key][0]), tuple(blocks[on] for on in moves[key][1])) for key in states}
        blocks = {key: numbers.setdefault(keys[key], len(numbers)) for key in states}
    return blocks


def slow_streams_alike(one, other):
    """The pairs of states (of one, of other) such that every stream of the first is answered alike by the second."""
    pairs = {(a, b) for a in all_states(one) for b in all_states(other)}
    while True:
        bad = {pair for pair in pairs if not streams_so_far_alike(one, other, pair, pairs)}
        if not bad:
            return pairs
        pairs -= bad


def streams_so_far_alike(one, other, pair, pairs):
    for deed in DEEDS:
        answer, a = slow_deed(one, pair[0], deed)
        met, b = slow_deed(other, pair[1], deed)
        if answer != ("refused",) and (answer != met or (a, b) not in pairs):
            return False
    return True


def shuffled(dice, fmt):
    """A format with the same words, of which some have each other's tokens."""
    tables = []
    for j in range(len(fmt)):
        rows = list(fmt.table(j).pairs())
        sizes = [(length, len(slow_spread(sign))) for sign, length in rows]
        for size in set(sizes):
            places = [at for at, other in enumerate(sizes) if other == size]
            signs = [rows[at][0] for at in places]
            dice.shuffle(signs)
            for at, sign in zip(places, signs):
                rows[at] = (sign, rows[at][1])
        tables.append(rows)
    return remade(fmt, tables=tables)
