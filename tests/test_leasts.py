"""Points 76, 78, 81, 82 and 85."""

import random

from helpers import Case
from leastreader.controls import ENDED
from leastreader.errors import BadFormat, BadState, NoState
from leastreader.formats import Format
from leastreader.heard import heard_places
from leastreader.leasts import kept_letters, least_state, state_with
from pairs import NO_LEASTS, classes_of, small_pairs
from slow import (
    COPIES, DEEDS, GAPS, STOPS, all_states, remade, slow_begun, slow_blocks, slow_controls, slow_count, slow_deeds,
    slow_links, slow_needs, slow_reach, slow_rests, some_deeds, some_formats, some_state)
from test_states import wrong_states


def slow_least(classes, fmt, state, second):
    """The least state by the words of point 76."""
    control, begun, window = state
    number = list(slow_controls(fmt)).index(control)
    if not begun:
        depth = slow_reach(fmt, control)[0]
        return ("at", classes.class_of(number, second=second), window[fmt.width - depth:])
    depth = slow_reach(fmt, (0, fmt.recents))[0] if fmt.restarts else 0
    rows = []
    for rest in slow_rests(fmt, control, begun):
        answers, behind = slow_deeds(fmt, state, rest)
        plain = slow_links(fmt, control)[begun + rest][0]
        depth = max(depth, slow_reach(fmt, behind[0])[0] - slow_count(plain))
        cls = classes.class_of(list(slow_controls(fmt)).index(behind[0]), second=second)
        rows.append((rest, answers[-1], cls))
    return ("in", tuple(rows), window[fmt.width - depth:])


class Least(Case):
    def test_point_76_least_states(self):
        dice, seen = random.Random(76), set()
        for one, other in small_pairs(76, 60):
            classes = classes_of(one, other)
            for second, fmt in ((False, one), (True, other)):
                for state in dice.sample(all_states(fmt), min(40, len(all_states(fmt)))):
                    held = least_state(classes, state, second=second)
                    self.same(held, slow_least(classes, fmt, state, second))
                    self.same(least_state(classes, [state[0], state[1], list(state[2])], second=second), held)
                    self.same(kept_letters(held), len(held[2]))
                    seen.add((held[0], len(held[2]), state[0] == ENDED, fmt.restarts, 99 in held[2]))
        self.assertTrue({("at", 0, True, False, False), ("at", 0, False, False, False)} <= seen)
        self.assertTrue({("at", 2, True, True, True), ("in", 2, False, True, True), ("in", 0, False, False, False)} <= seen)

    def test_larger_formats(self):
        dice = random.Random(761)
        for fmt in some_formats(761, 60, most=15, n=(2, 3), width=(1, 6)):
            classes = classes_of(fmt)
            for control in slow_controls(fmt):
                for begun in slow_begun(fmt, control):
                    state = some_state(dice, fmt, [(control, begun)])
                    self.same(least_state(classes, state), slow_least(classes, fmt, state, False))

    def test_points_78_and_82_alike_exactly_with_equal_least_states(self):
        for one, other in small_pairs(78, 40):
            classes = classes_of(one, other)
            found = {}
            blocks = slow_blocks((one, other))
            for (side, state), block in blocks.items():
                held = least_state(classes, state, second=side == 1)
                self.assertEqual(found.setdefault(held, block), block)
                self.assertEqual(held[0] == "in", state[1] != "")
            self.assertEqual(len(found), len(set(blocks.values())))
            begun = {block for (_, state), block in blocks.items() if state[1]}
            self.assertFalse(begun & {block for (_, state), block in blocks.items() if not state[1]})

    def test_alike_states_answer_short_futures_alike(self):
        dice, alike = random.Random(781), 0
        for one, other in small_pairs(781, 30):
            classes = classes_of(one, other)
            by_least = {}
            for side, fmt in enumerate((one, other)):
                for state in all_states(fmt):
                    by_least.setdefault(least_state(classes, state, second=side == 1), []).append((fmt, state))
            futures = [some_deeds(dice, 7, DEEDS) for _ in range(3)]
            for held, states in by_least.items():
                for deeds in futures:
                    answers = [slow_deeds(fmt, state, deeds)[0] for fmt, state in states[:5]]
                    self.assertTrue(all(row == answers[0] for row in answers))
                alike += len(states) > 1
        self.assertGreater(alike, 500)

    def test_point_81_where_the_heard_recents_are_told(self):
        dice, unlike = random.Random(81), 0
        for fmt in some_formats(812, 150, most=20, many=(1, 3), pairs=4, width=(1, 3)):
            try:
                heard = heard_places(fmt)
            except BadFormat:
                continue
            classes = classes_of(fmt)
            controls = [control for control in slow_controls(fmt) if control != ENDED]
            for _ in range(30):
                a, b = dice.choice(controls), dice.choice(controls)
                if a[0] == b[0]:
                    v, w = some_state(dice, fmt)[2], some_state(dice, fmt)[2]
                    depth = slow_reach(fmt, a)[0]
                    same = all(a[1][k] == b[1][k] for k in heard[a[0]])
                    equal = same and v[fmt.width - depth:] == w[fmt.width - depth:]
                    if same:
                        self.same(depth, slow_reach(fmt, b)[0])
                    self.assertEqual(least_state(classes, (a, "", v)) == least_state(classes, (b, "", w)), equal)
                    unlike += not equal
        self.assertGreater(unlike, 300)

    def test_by_hand(self):
        classes = classes_of(Format(2, 3, tables=[COPIES]))
        self.same(least_state(classes, ((0, ()), "", (1, 0, 99))), ("at", 0, (0, 99)))
        self.same(
            least_state(classes, ((0, ()), "1", (1, 0, 99))),
            ("in", (("0", ("told", (99,)), 0), ("1", ("told", (0,)), 0)), (99,)))
        classes = classes_of(Format(2, 3, tables=[STOPS]))
        self.same(least_state(classes, (ENDED, "", (1, 0, 99))), ("at", 1, ()))
        self.same(
            least_state(classes, ((0, ()), "1", (1, 0, 99))),
            ("in", (("0", ("told", (0, 99)), 0), ("1", ("stopped",), 1)), ()))
        classes = classes_of(Format(2, 3, tables=[STOPS], restarts=True))
        self.same(least_state(classes, (ENDED, "", (1, 0, 99))), ("at", 1, (0, 99)))
        far = [(("letter", 0, 1), 1), (("copy", 3, 0, 2, 0), 2), (("turn", 0), 2)]
        self.same(
            least_state(classes_of(Format(2, 3, tables=[far])), ((0, ()), "1", (1, 0, 0))),
            ("in", (("0", ("told", (1, 0)), 0), ("1", ("turned",), 0)), (1, 0, 0)))


class With(Case):
    def test_point_85_the_first_state_with_each_least_state(self):
        with_holes, moved = 0, 0
        for one, other in small_pairs(85, 50):
            classes = classes_of(one, other)
            firsts, every = {}, {}
            for second, fmt in ((False, one), (True, other)):
                for control in slow_controls(fmt):
                    for begun in slow_begun(fmt, control):
                        for state in [state for state in all_states(fmt) if state[:2] == (control, begun)]:
                            held = least_state(classes, state, second=second)
                            firsts.setdefault((second, held), (control, begun))
                            every[held] = state
            for held in every:
                for second, fmt in ((False, one), (True, other)):
                    if (second, held) not in firsts:
                        self.refused(NoState, state_with, classes, held, second=second)
                        continue
                    control, begun = firsts[second, held]
                    state = state_with(classes, held, second=second)
                    self.same(state[:2], (control, begun))
                    self.same(least_state(classes, state, second=second), held)
                    places = slow_needs(fmt, control, begun)
                    others = [p for p in range(1, fmt.width + 1) if p not in places]
                    self.assertTrue(all(state[2][-p] == 99 for p in others))
                    with_holes += any(state[2][-p] == 99 for p in places)
                    moved += state[:2] != every[held][:2]
        self.assertGreater(with_holes, 300)
        self.assertGreater(moved, 100)

    def test_point_85_streams_lead_to_least_states_without_holes(self):
        dice = random.Random(851)
        for fmt in some_formats(851, 15, most=3, width=(1, 2), tables=(1, 2), pairs=2):
            classes = classes_of(fmt)
            wanted = {least_state(classes, state) for state in all_states(fmt, holes=False)}
            start = ((0, fmt.recents), "", some_state(dice, fmt)[2])
            seen, layer = set(), {start}
            while layer:
                seen |= layer
                layer = {slow_deeds(fmt, state, bit)[1] for state in layer for bit in "01"} - seen
            self.assertTrue(wanted <= {least_state(classes, state) for state in seen})

    def test_any_value_that_is_no_least_state(self):
        fmt = Format(2, 3, tables=[COPIES])
        for classes in (classes_of(fmt), classes_of(fmt, remade(fmt, restarts=True))):
            self.same(state_with(classes, ("at", 0, (0, 1))), ((0, ()), "", (99, 0, 1)))
            for wrong in NO_LEASTS + (
                    ("at", 0, (1,)), ("at", 0, (0, 1, 0)), ("at", 0, ()), ("at", 0, (2, 0)), ("at", 7, (0, 1)),
                    ("in", (("0", ("told", (1,)), 0), ("1", ("told", (0,)), 0)), (0,)),
                    ("in", (("1", ("told", (0,)), 0), ("0", ("told", (1,)), 0)), (1,)),
                    ("in", (("0", ("told", (1,)), 0),), (1,)), ("in", (("0", ("told", (1, 1)), 0), ("1", ("told", (0,)), 0)), (1,)),
                    ("in", (("0", ("told", (2,)), 0), ("1", ("told", (0,)), 0)), (2,)),
                    ("in", (("0", ("told", (True,)), 0), ("1", ("told", (0,)), 0)), (1,)),
                    ("in", (("0", ("told", (1,)), False), ("1", ("told", (0,)), 0)), (1,)),
                    ("in", (("0", ("told", (1,)), 0), ("1", ("taken",), 0)), (1,)),
                    ("in", (("0", ("told", (1,)), 0), ("1", ("told", (0,)), 0)), ("1",))):
                self.refused(NoState, state_with, classes, wrong)
        held = ("in", (("0", ("told", (1,)), 0), ("1", ("told", (0,)), 0)), (1,))
        self.same(state_with(classes_of(fmt), held), ((0, ()), "1", (99, 0, 1)))
        for word in ("on", 0, None, "", ["in"], "IN", ("in",)):
            self.refused(NoState, state_with, classes_of(fmt), (word,) + held[1:])
            self.refused(NoState, state_with, classes_of(fmt), (word, 0, (0, 1)))
        self.refused(NoState, state_with, classes_of(fmt), ("at",) + held[1:])

    def test_letters_of_the_other_format(self):
        three = [(("letter", 0, 1), 2), (("letter", 2, 0), 2), (("copy", 2, 0, 1, 0), 2)]
        two = [(("letter", 0, 1), 2), (("copy", 2, 0, 1, 0), 2)]
        classes = classes_of(Format(2, 2, tables=[two]), Format(3, 3, tables=[three]))
        self.same(state_with(classes, ("at", 0, (1, 0))), ((0, ()), "", (1, 0)))
        self.same(state_with(classes, ("at", 1, (2, 0)), second=True), ((0, ()), "", (99, 2, 0)))
        self.refused(NoState, state_with, classes, ("at", 0, (2, 0)))
        self.refused(NoState, state_with, classes, ("at", 0, (1, 0)), second=True)


class Wrong(Case):
    def test_states_that_are_none(self):
        fmt = Format(2, 3, tables=[STOPS])
        alone, both = classes_of(fmt), classes_of(Format(2, 2, tables=[GAPS[:2] + [(("stop",), 2)]]), fmt)
        for wrong in wrong_states(fmt):
            self.refused(BadState, least_state, alone, wrong)
            self.refused(BadState, least_state, both, wrong, second=True)
        self.refused(BadState, least_state, alone, ((0, ()), "", (0, 1, 0)), second=True)
        self.refused(BadState, least_state, both, ((0, ()), "", (0, 1, 0)))
        self.refused(BadState, state_with, alone, ("at", 0, (0, 1)), second=True)
        # There is no second format, and the value is no least state, either.
        self.refused(BadState, state_with, alone, None, second=True)

    def test_arguments_stay_and_results_are_tuples(self):
        state = [(0, ()), "1", [1, 0, 99]]
        classes = classes_of(Format(2, 3, tables=[COPIES]))
        held = least_state(classes, state)
        self.same(state, [(0, ()), "1", [1, 0, 99]])
        state[2][2] = 0
        self.same(held[2], (99,))
