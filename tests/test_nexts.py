"""Point 84."""

import random

from helpers import Case
from leastreader.errors import BadDeed, NoState
from leastreader.formats import Format
from leastreader.leasts import least_state
from leastreader.nexts import least_behind, next_least
from pairs import NO_LEASTS, classes_of, small_pairs
from slow import COPIES, DEEDS, STOPS, all_states, remade, slow_deed, slow_deeds, some_deeds, some_formats, some_state
from test_states import NO_DEEDS, NO_FUTURES


class Nexts(Case):
    def test_point_84_all_states_with_a_least_state_go_on_alike(self):
        dice, seen = random.Random(84), set()
        for one, other in small_pairs(84, 40):
            classes = classes_of(one, other)
            for second, fmt in ((False, one), (True, other)):
                states = all_states(fmt)
                for state in dice.sample(states, min(60, len(states))):
                    held = least_state(classes, state, second=second)
                    for deed in DEEDS:
                        answer, behind = slow_deed(fmt, state, deed)
                        self.same(next_least(classes, held, deed), (answer, least_state(classes, behind, second=second)))
                        seen.add((answer[0], held[0]))
        for word in ("taken", "told", "turned", "stopped", "refused", "restarted", "lost"):
            self.assertIn((word, "in"), seen)

    def test_point_84_futures(self):
        dice, refused = random.Random(841), 0
        for fmt in some_formats(841, 60, most=12, n=(2, 3), width=(1, 5)):
            classes = classes_of(fmt)
            for _ in range(5):
                state, deeds = some_state(dice, fmt), some_deeds(dice, 25)
                held = least_state(classes, state)
                answers, behind = slow_deeds(fmt, state, deeds)
                for given in (deeds, tuple(deeds)):
                    self.same(least_behind(classes, held, given), (answers, least_state(classes, behind)))
                now = held
                for deed, answer in zip(deeds, answers):
                    met, now = next_least(classes, now, deed)
                    self.same(met, answer)
                self.same(now, least_state(classes, behind))
                refused += answers.count(("refused",))
        self.assertGreater(refused, 100)

    def test_least_states_of_the_second_format(self):
        fmt = Format(2, 3, tables=[COPIES])
        other = remade(fmt, restarts=True)
        classes = classes_of(fmt, other)
        self.same(next_least(classes, ("at", 0, (0, 1)), "restart"), (("refused",), ("at", 0, (0, 1))))
        self.same(next_least(classes, ("at", 1, (0, 1)), "restart"), (("restarted",), ("at", 1, (0, 1))))
        self.same(next_least(classes, ("at", 1, (0, 1)), "loss"), (("lost",), ("at", 1, (1, 99))))

    def test_empty_futures_and_bits(self):
        classes = classes_of(Format(2, 3, tables=[COPIES]))
        for empty in ("", [], ()):
            self.same(least_behind(classes, ("at", 0, (0, 1)), empty), ([], ("at", 0, (0, 1))))
        self.same(least_behind(classes, ("at", 0, (0, 1)), "10"), ([("taken",), ("told", (1,))], ("at", 0, (1, 1))))

    def test_errors_in_their_order(self):
        fmt = Format(2, 3, tables=[STOPS])
        for classes in (classes_of(fmt), classes_of(fmt, fmt)):
            good = ("at", 0, (0, 1))
            for wrong in NO_LEASTS + (("at", 0, (1,)), ("at", 2, ()), ("at", 1, (0,))):
                if not (isinstance(wrong, tuple) and wrong == good):
                    self.refused(NoState, next_least, classes, wrong, "0")
                    self.refused(NoState, next_least, classes, wrong, "2")
                    self.refused(NoState, least_behind, classes, wrong, "2")
            for wrong in NO_DEEDS:
                self.refused(BadDeed, next_least, classes, good, wrong)
            for wrong in NO_FUTURES:
                self.refused(BadDeed, least_behind, classes, good, wrong)

    def test_lists_that_were_returned_or_given_can_be_changed(self):
        classes, deeds = classes_of(Format(2, 3, tables=[COPIES])), ["0", "1"]
        found = least_behind(classes, ("at", 0, (0, 1)), deeds)
        found[0].clear()
        self.same(deeds, ["0", "1"])
        self.same(least_behind(classes, ("at", 0, (0, 1)), deeds)[0], [("taken",), ("told", (1,))])
