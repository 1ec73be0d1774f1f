"""Points 58 and 59."""

import random

from helpers import AGAIN, Case, some_recents
from leastreader.classes import Classes
from leastreader.controls import Controls
from leastreader.errors import BadFormat, TooLarge
from leastreader.formats import Format
from leastreader.heard import heard_places
from leastreader.recents import fewest_moves, moved_order
from slow import COPIES, LETTERS, remade, slow_controls, slow_links, slow_table, some_formats


def copied_used(fmt):
    """True if some table has a copy or an again of a step of at least 1."""
    tokens = [token for j in range(len(fmt)) for token in slow_table(fmt, j).values()]
    return any(token[0] == "copy" or token[0] == "again" and token[2] > 0 for token in tokens)


def source(fmt, token, k):
    """The index from which the recent at index k comes behind a token."""
    if token[0] == "again" and token[2] == 0:
        return moved_order(len(fmt.recents), fmt.again_rule, [token[1]])[k]
    if token[0] in ("copy", "again") and fmt.copied == "push":
        return k - 1 if k else token[1] if token[0] == "again" else None
    return k


def slow_heard(fmt):
    """The heard sets: all that can be gone to, against the direction of the tokens, from the index of an again."""
    found = []
    for j in range(len(fmt)):
        heard, layer, seen = set(), {(j, k) for k in range(len(fmt.recents))}, set()
        for start in layer:
            seen, now = set(), {start}
            while now:
                seen |= now
                now = {on for spot in now for on in forward(fmt, spot)} - seen
            if any(spot[1] == token[1] for spot in seen for token in slow_table(fmt, spot[0]).values()
                    if token[0] == "again"):
                heard.add(start[1])
        found.append(sorted(heard))
    return found


def forward(fmt, spot):
    """Where the recent at an index of a table may be behind one token."""
    for token in slow_table(fmt, spot[0]).values():
        if token[0] == "turn":
            yield token[1], spot[1]
        elif token[0] != "stop":
            yield from ((spot[0], k) for k in range(len(fmt.recents)) if source(fmt, token, k) == spot[1])


class Heard(Case):
    def test_point_58_least_sets_and_the_error(self):
        seen, refused = set(), 0
        for fmt in some_formats(58, 300, many=(0, 4), pairs=4):
            if fmt.copied == "front" and copied_used(fmt):
                self.refused(BadFormat, heard_places, fmt)
                refused += 1
                continue
            found = heard_places(fmt)
            self.same(found, slow_heard(fmt))
            seen.add((fmt.copied, fmt.again_rule, any(found)))
        self.assertGreater(refused, 30)
        self.assertEqual(len(seen), 24)

    def test_point_58_classes_of_one_table(self):
        unlike = 0
        for fmt in some_formats(581, 250, most=40, many=(1, 4), pairs=4):
            if fmt.copied == "front" and copied_used(fmt):
                continue
            heard, classes = heard_places(fmt), Classes(Controls(fmt))
            for a, (j, q) in enumerate(classes.one):
                for b, (k, p) in enumerate(classes.one):
                    if j == k and j >= 0:
                        equal = all(q[at] == p[at] for at in heard[j])
                        self.assertEqual(classes.class_of(a) == classes.class_of(b), equal)
                        unlike += not equal
        self.assertGreater(unlike, 1000)

    def test_point_58_starts_of_formats_with_other_recents(self):
        dice, alike = random.Random(582), 0
        for fmt in some_formats(582, 250, most=40, many=(1, 4), pairs=4):
            other = remade(fmt, recents=some_recents(dice, min(2, fmt.width), len(fmt.recents)))
            if fmt.copied == "front" and copied_used(fmt) or len(slow_controls(other, 150)) > 150:
                continue
            classes = Classes(Controls(fmt), Controls(other))
            equal = all(fmt.recents[at] == other.recents[at] for at in heard_places(fmt)[0])
            self.assertEqual(classes.walk(0, 0, b_second=True) is None, equal)
            alike += equal
        self.assertTrue(30 < alike < 200)

    def test_by_hand(self):
        again = [(("letter", 0, 1), 1), (("again", 2, 0, 1, 0), 1)]
        for rule, expected in (("front", [0, 1, 2]), ("push", [0, 1, 2]), ("swap", [1, 2]), ("keep", [2])):
            self.same(heard_places(Format(2, 3, recents=(1, 2, 3, 1), again=rule, tables=[again])), [expected])
        pushed = again + [(("copy", 1, 0, 1, 0), 2)]
        pushed = [(sign, length + 1) for sign, length in pushed]
        fmt = Format(2, 3, recents=(1, 2, 3, 1), copied="push", again="keep", tables=[pushed])
        self.same(heard_places(fmt), [[0, 1, 2]])
        self.same(heard_places(Format(2, 3, copied="keep", tables=[COPIES])), [[]])
        self.refused(BadFormat, heard_places, Format(2, 3, tables=[COPIES]))
        self.same(heard_places(Format(2, 3, recents=(1,), tables=[LETTERS, LETTERS])), [[], []])
        # A table that no turn reaches counts, too.
        self.refused(BadFormat, heard_places, Format(2, 3, tables=[LETTERS, COPIES]))
        turned = [(("letter", 0, 1), 1), (("turn", 1), 1)]
        fmt = Format(2, 3, recents=(1, 2, 3), again="keep", tables=[turned, again, [(("letter", 0, 1), 1), (("turn", 0), 1)]])
        self.same(heard_places(fmt), [[2], [2], [2]])
        found = heard_places(fmt)
        found[0].append(7)
        found.append(7)
        self.same(heard_places(fmt), [[2], [2], [2]])

    def test_formats_with_more_than_150_reached_controls(self):
        rows = [(("letter", 0, 1), 2), (("copy", 1, 3, 1, 0), 2), (("copy", 9, 3, 1, 0), 2), (("again", 1, 0, 1, 0), 2)]
        fmt = Format(2, 24, recents=(1, 2, 3), copied="push", again="keep", tables=[rows])
        self.refused(TooLarge, Controls, fmt)
        self.same(heard_places(fmt), [[0, 1]])


class OneTable(Case):
    def test_point_59_heard_sets_and_fewest_words(self):
        dice, some = random.Random(59), 0
        for _ in range(120):
            many, rule = dice.randint(0, 4), dice.choice(AGAIN)
            indexes = sorted(dice.sample(range(many), dice.randint(0, many)))
            rows = [(("letter", 0, 1), 3)] + [(("again", i, 0, dice.randint(1, 5), 0), 3) for i in indexes]
            start = tuple(dice.sample(range(1, 7), many))
            fmt = Format(2, 6, recents=start, again=rule, tables=[rows] if len(rows) > 1 else [LETTERS])
            expected = {
                "keep": set(indexes), "front": set(range(max(indexes, default=-1) + 1)),
                "push": set(range(max(indexes, default=-1) + 1)),
                "swap": set(indexes) | {i - 1 for i in indexes if i}}[rule]
            self.same(heard_places(fmt), [sorted(expected)])
            if many == 0 or len(indexes) < many:
                continue
            for control in list(Controls(fmt))[:8]:
                fewest, layer, steps = {}, {control}, 0
                while layer:
                    fewest.update({on: steps for on in layer})
                    layer = {on for now in layer for _, on in slow_links(fmt, now).values()} - set(fewest)
                    steps += 1
                for other in Controls(fmt):
                    if sorted(control[1]) == sorted(other[1]) == sorted(start):
                        moves = fewest_moves(control[1], other[1], rule)
                        self.same(fewest.get(other), None if moves is None else len(moves))
                        some += 1
        self.assertGreater(some, 200)
