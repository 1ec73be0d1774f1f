"""Points 3 to 9, 12 and 14, as far as the module telling shows them, and the sizes of 0.5."""

import itertools
import random

from helpers import (
    AGAIN, COPIED, NO_INTEGERS, NO_SERIES, Case, all_rows, slow_run, some_recents, some_runs, some_token,
    some_tokens, some_window)
from leastreader.errors import BadRecents, BadRule, BadSize, BadToken, BadWindow
from leastreader.recents import last_used, moved_order
from leastreader.telling import output_of, recents_behind, resolved, run_tokens

BAD_TOKENS = (
    None, ["copy", 1, 1], ("copy", 3, 1), ("copy", 0, 1), ("copy", 1, 0), ("copy", 1, 41), ("again", 2, 0, 1),
    ("again", 0, 2, 1), ("again", 0, 0, 41), ("turn", 6), ("letter", 16), ("letter", True), ("stop", 1), "stop")
BAD_WINDOWS = NO_SERIES + ([True], (16,), [-1], ("0",), [0, 98])
BAD_RECENTS = NO_SERIES + ((0,), (3,), [True], (1, 1, 1, 1, 1))


class Resolved(Case):
    def test_point_5_resolved_tokens(self):
        for token in (("letter", 15), ("copy", 4, 40), ("stop",)):
            self.same(resolved(token, (1, 3), 4), token)
        for number in range(6):
            self.same(resolved(("turn", number), (), 1), ("turn",))
        self.same(resolved(("again", 1, 0, 7), [1, 3], 4), ("copy", 3, 7))
        self.same(resolved(("again", 1, 1, 7), [1, 3], 4), ("copy", 4, 7))
        self.same(resolved(("again", 1, 2, 7), [1, 3], 4), ("copy", 1, 7))
        self.same(resolved(("again", 0, 0, 1), [1], 1), ("copy", 1, 1))

    def test_point_8_steps(self):
        for width in (1, 2, 3, 5, 24):
            for x, d in itertools.product(range(1, width + 1), repeat=2):
                steps = [e for e in range(width) if resolved(("again", 0, e, 2), (x,), width) == ("copy", d, 2)]
                self.same(steps, [(d - x) % width])

    def test_point_8_agains_with_the_same_resolved_tokens(self):
        width = 3
        agains = list(itertools.product((0, 1), range(width), (1, 2)))
        for one, other in itertools.product(agains, repeat=2):
            alike = all(
                resolved(("again", *one), x, width) == resolved(("again", *other), x, width)
                for x in itertools.product((1, 2, 3), repeat=2))
            self.assertEqual(alike, one == other)

    def test_point_14_errors_in_their_order(self):
        for width in (0, 25) + NO_INTEGERS:
            self.refused(BadSize, resolved, None, None, width)
        for wrong in BAD_RECENTS:
            self.refused(BadRecents, resolved, None, wrong, 2)
        for wrong in BAD_TOKENS:
            self.refused(BadToken, resolved, wrong, (1, 2), 2)


class Outputs(Case):
    def test_point_3_outputs(self):
        self.same(output_of(("letter", 7), (0,), ()), (7,))
        self.same(output_of(("copy", 1, 3), [0, 99], []), (99, 99, 99))
        self.same(output_of(("copy", 3, 7), (2, 0, 1), ()), (2, 0, 1, 2, 0, 1, 2))
        self.same(output_of(("copy", 3, 2), (2, 0, 1), ()), (2, 0))
        self.same(output_of(("again", 1, 2, 2), (2, 0, 1), [1, 3]), (0, 1))
        for token in (("turn", 5), ("stop",)):
            self.same(output_of(token, (1, 2), (1,)), ())

    def test_point_3_copies_come_one_by_one(self):
        for width in (1, 2, 5, 24):
            window = tuple((7 * k + 3) % 16 for k in range(width - 1)) + (99,)
            for d, length in itertools.product(range(1, width + 1), (1, 2, 3, 24, 25, 40)):
                found = output_of(("copy", d, length), window, ())
                self.same(found, slow_run([("copy", d, length)], window, ())[0])
                # Point 6: entry k is the entry at place d - (k mod d) of the window.
                self.same(found, tuple(window[-(d - k % d)] for k in range(length)))

    def test_point_6_where_two_windows_agree(self):
        width, windows = 3, list(all_rows(2, 3))
        for d, length in itertools.product((1, 2, 3), (1, 2, 3, 4, 7)):
            places = list(range(d, max(1, d - length + 1) - 1, -1))
            for one, other in itertools.product(windows, repeat=2):
                a, b = (output_of(("copy", d, length), w, ()) for w in (one, other))
                unlike = [p for p in places if one[width - p] != other[width - p]]
                self.assertEqual(a == b, not unlike)
                if unlike:
                    first = [x == y for x, y in zip(a, b)].index(False)
                    self.assertEqual(first, d - max(unlike))

    def test_arguments_are_left_as_they_were(self):
        window, recents = [0, 1, 99], [2, 1]
        output_of(("again", 0, 1, 9), window, recents)
        recents_behind(("again", 1, 1, 9), recents, 3)
        self.same((window, recents), ([0, 1, 99], [2, 1]))

    def test_point_14_errors_in_their_order(self):
        for wrong in ((), [], (0,) * 25, [None] * 25):
            self.refused(BadSize, output_of, None, wrong, None)
        for wrong in BAD_WINDOWS:
            self.refused(BadWindow, output_of, None, wrong, None)
        for wrong in BAD_RECENTS:
            self.refused(BadRecents, output_of, None, (0, 1), wrong)
        for wrong in BAD_TOKENS:
            self.refused(BadToken, output_of, wrong, (0, 1), (1, 2))


class Recents(Case):
    def test_point_4_recents_behind_tokens(self):
        dice = random.Random(4)
        for _ in range(500):
            width, many = dice.randint(1, 5), dice.randint(0, 4)
            token = some_token(dice, 16, width, many)
            recents = some_recents(dice, width, many)
            for copied, again in itertools.product(COPIED, AGAIN):
                expected = slow_run([token], (0,) * width, recents, copied, again)[2]
                self.same(recents_behind(token, list(recents), width, copied=copied, again=again), expected)
            expected = slow_run([token], (0,) * width, recents)[2]
            self.same(recents_behind(token, recents, width), expected)

    def test_point_4_which_rule_moves_an_again(self):
        self.same(recents_behind(("again", 1, 0, 1), (1, 3), 4, copied="keep", again="swap"), (3, 1))
        self.same(recents_behind(("again", 1, 1, 1), (1, 3), 4, copied="push", again="keep"), (4, 1))
        self.same(recents_behind(("again", 1, 1, 1), (1, 3), 4, copied="keep", again="push"), (1, 3))
        for token in (("letter", 0), ("turn", 1), ("stop",)):
            self.same(recents_behind(token, (1, 3), 4, copied="push", again="push"), (1, 3))
        self.same(recents_behind(("copy", 2, 1), (), 4, copied="push", again="push"), ())

    def test_point_14_errors_in_their_order(self):
        for width in (0, 25) + NO_INTEGERS:
            self.refused(BadSize, recents_behind, None, None, width, copied=0, again=0)
        for wrong in BAD_RECENTS:
            self.refused(BadRecents, recents_behind, None, wrong, 2, copied=0, again=0)
        for rule in ("swap", None, "Front", ["front"]):
            self.refused(BadRule, recents_behind, None, (), 2, copied=rule, again="front")
        for rule in ("next", None, "Swap", ["front"]):
            self.refused(BadRule, recents_behind, None, (), 2, again=rule)
        for wrong in BAD_TOKENS:
            self.refused(BadToken, recents_behind, wrong, (1, 2), 2)


class Sequences(Case):
    def test_point_5_sequences_step_by_step(self):
        for n, width, recents, tokens, copied, again in some_runs(5, 400):
            window = some_window(random.Random(len(tokens)), n, width)
            expected = slow_run(tokens, window, recents, copied, again)
            for form in (list, tuple):
                found = run_tokens(form(tokens), form(window), form(recents), n=n, copied=copied, again=again)
                self.same(found, expected)
            stopped = run_tokens(tokens + [("stop",)], window, recents, n=n, copied=copied, again=again)
            self.same(stopped, expected)

    def test_point_5_the_empty_sequence_and_a_stop_alone(self):
        for tokens in ((), [], [("stop",)], (("turn", 3), ("stop",))):
            self.same(run_tokens(tokens, [0, 99], [2], n=2), ((), (0, 99), (2,)))

    def test_point_7_one_behind_the_other(self):
        for n, width, recents, tokens, copied, again in some_runs(7, 200):
            window = some_window(random.Random(width), n, width)
            for cut in range(len(tokens) + 1):
                first = run_tokens(tokens[:cut], window, recents, n=n, copied=copied, again=again)
                last = run_tokens(tokens[cut:], first[1], first[2], n=n, copied=copied, again=again)
                whole = run_tokens(tokens, window, recents, n=n, copied=copied, again=again)
                self.same(whole, (first[0] + last[0], last[1], last[2]))

    def test_point_7_recents_are_the_same_over_all_windows(self):
        for n, width, recents, tokens, copied, again in some_runs(8, 100, most_width=3):
            behind = {
                run_tokens(tokens, window, recents, n=n, copied=copied, again=again)[2]
                for window in [(0,) * width, (1,) * width, (99,) * width]}
            self.assertEqual(len(behind), 1)

    def test_point_9_front_and_front(self):
        dice = random.Random(99)
        for _ in range(200):
            width, many = dice.randint(4, 6), dice.randint(0, 4)
            recents = tuple(dice.sample(range(1, width + 1), many))
            tokens = some_tokens(dice, 10, 2, width, many)
            used, now = [], recents
            for token in tokens:
                plain = resolved(token, now, width)
                used += [plain[1]] if plain[0] == "copy" else []
                now = recents_behind(token, now, width)
            self.same(run_tokens(tokens, (0,) * width, recents, n=2)[2], last_used(recents, used))

    def test_point_10_agains_move_by_indexes(self):
        for rule in AGAIN:
            agains = [("again", index, 0, 1) for index in (2, 1, 2, 0)]
            order = moved_order(3, rule, (2, 1, 2, 0))
            behind = run_tokens(agains, (0,) * 5, (4, 1, 5), n=2, again=rule)[2]
            self.same(behind, tuple((4, 1, 5)[k] for k in order))

    def test_point_12_holes(self):
        for n, width, recents, tokens, copied, again in some_runs(12, 300):
            window = some_window(random.Random(width + 3), n, width)
            outs = []
            for letter in (99, 0, 1):
                row = [letter if entry == 99 else entry for entry in window]
                outs.append(run_tokens(tokens, row, recents, n=n, copied=copied, again=again)[0])
            for hole, zero, one in zip(*outs):
                self.assertEqual(hole == 99, zero != one)
                if hole != 99:
                    self.same((hole, zero), (zero, one))

    def test_point_14_errors_in_their_order(self):
        for n in (1, 17) + NO_INTEGERS:
            self.refused(BadSize, run_tokens, None, None, None, n=n, copied=0, again=0)
        for wrong in ((), [], (0,) * 25, [None] * 25):
            self.refused(BadSize, run_tokens, None, wrong, None, n=2, copied=0, again=0)
        for wrong in BAD_WINDOWS + ((2,), [0, 15]):
            self.refused(BadWindow, run_tokens, None, wrong, None, n=2, copied=0, again=0)
        for wrong in BAD_RECENTS:
            self.refused(BadRecents, run_tokens, None, (0, 1), wrong, n=2, copied=0, again=0)
        for rule in ("swap", None, "Front", ["front"]):
            self.refused(BadRule, run_tokens, None, (0, 1), (), n=2, copied=rule, again="front")
        for rule in ("next", None, "Swap", ["front"]):
            self.refused(BadRule, run_tokens, None, (0, 1), (), n=2, again=rule)
        for wrong in BAD_TOKENS + (("letter", 2),):
            self.refused(BadToken, run_tokens, [wrong], (0, 1), (1, 2), n=2)
            self.refused(BadToken, run_tokens, (("letter", 0), wrong), (0, 1), (1, 2), n=2)
        for wrong in NO_SERIES + (("stop",), ("letter", 0)):
            self.refused(BadToken, run_tokens, wrong, (0, 1), (1, 2), n=2)

    def test_point_5_a_stop_ahead_of_another_token(self):
        for tokens in ([("stop",), ("letter", 0)], [("stop",), ("stop",)], [("turn", 0), ("stop",), ("turn", 0)]):
            self.refused(BadToken, run_tokens, tokens, (0,), (), n=2)

    def test_point_2_arguments_are_left_as_they_were(self):
        tokens, window, recents = [("copy", 2, 9), ("again", 1, 0, 4), ("stop",)], [0, 1, 99], [3, 1]
        run_tokens(tokens, window, recents, n=2)
        self.same(tokens, [("copy", 2, 9), ("again", 1, 0, 4), ("stop",)])
        self.same((window, recents), ([0, 1, 99], [3, 1]))

    def test_point_0_5_sequences_of_300_tokens(self):
        dice = random.Random(300)
        window, recents = some_window(dice, 16, 24), (24, 1, 7, 12)
        for copied, again in itertools.product(COPIED, AGAIN):
            tokens = some_tokens(dice, 300, 16, 24, 4)
            expected = slow_run(tokens, window, recents, copied, again)
            self.same(run_tokens(tokens, window, recents, n=16, copied=copied, again=again), expected)
