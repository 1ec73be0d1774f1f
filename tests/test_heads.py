"""Point 86."""

import random

from helpers import NO_SERIES, Case
from leastreader.alikes import alike
from leastreader.controls import ENDED
from leastreader.errors import BadState, NoState
from leastreader.formats import Format
from leastreader.heads import Head
from leastreader.leasts import kept_letters, least_state, state_with
from leastreader.readers import Reader
from leastreader.states import shown_answer
from pairs import NO_LEASTS, classes_of, small_pairs
from slow import COPIES, STOPS, all_states, remade, slow_blocks, slow_deeds, some_deeds, some_formats, some_state
from test_states import wrong_states


def slow_text(held):
    if held[0] == "at":
        return " ".join(map(str, ("at", held[1]) + held[2]))
    lines = [" ".join(map(str, ("in",) + held[2]))]
    return "\n".join(lines + [f"{rest} {shown_answer(answer)} class {cls}" for rest, answer, cls in held[1]])


class Heads(Case):
    def test_point_86_heads_of_states_and_their_readers(self):
        dice, lengths = random.Random(86), set()
        for one, other in small_pairs(86, 40):
            classes = classes_of(one, other)
            for second, fmt in ((False, one), (True, other)):
                states = all_states(fmt)
                for state in dice.sample(states, min(40, len(states))):
                    head = Head.kept(classes, state, second=second)
                    held = least_state(classes, state, second=second)
                    self.assertIs(type(head), Head)
                    self.same(head.held, held)
                    self.same(len(head), kept_letters(held))
                    self.assertIs(Head(classes, held) == head, True)
                    reader = head.reader()
                    self.assertIs(type(reader), Reader)
                    self.same(reader.told(), ())
                    try:
                        expected, side = state_with(classes, held), False
                    except NoState:
                        expected, side = state_with(classes, held, second=True), True
                    self.same(reader.state, expected)
                    self.assertIs(reader.fmt, other if side else one)
                    deeds = some_deeds(dice, 12)
                    self.same(reader.feed(deeds), slow_deeds(fmt, state, deeds)[0])
                    lengths.add((held[0], len(head)))
        self.assertTrue({("at", 0), ("in", 0), ("at", 2), ("in", 2), ("in", 1)} <= lengths)

    def test_point_86_cuts(self):
        dice = random.Random(861)
        for fmt in some_formats(861, 80, most=15, n=(2, 3), width=(1, 5)):
            classes, state, deeds = classes_of(fmt), some_state(dice, fmt), some_deeds(dice, 40)
            answers = slow_deeds(fmt, state, deeds)[0]
            for cut in range(0, 41, 8):
                reader = Reader.of_state(fmt, state)
                reader.feed(deeds[:cut])
                head = Head.kept(classes, reader.state)
                self.same(head.reader().feed(deeds[cut:]), answers[cut:])
                self.same(Head.read(classes, head.text()).reader().feed(deeds[cut:]), answers[cut:])

    def test_point_86_equal_heads_have_alike_readers(self):
        dice, equal = random.Random(862), 0
        for one, other in small_pairs(862, 20):
            classes, blocks = classes_of(one, other), slow_blocks((one, other))
            keys = list(blocks)
            for _ in range(200):
                (s, a), (t, b) = dice.choice(keys), dice.choice(keys)
                first, last = Head.kept(classes, a, second=s == 1), Head.kept(classes, b, second=t == 1)
                self.assertIs(first == last, blocks[s, a] == blocks[t, b])
                self.assertIs(first != last, blocks[s, a] != blocks[t, b])
                equal += first == last
                if s == 0:
                    self.assertIs(first == last, alike(classes, a, b, second=t == 1))
        self.assertGreater(equal, 50)

    def test_what_is_no_head_is_not_equal(self):
        head = Head(classes_of(Format(2, 3, tables=[COPIES])), ("at", 0, (0, 1)))
        for other in (("at", 0, (0, 1)), "at 0 0 1", None, 2, [head]):
            self.assertIs(head == other, False)
        self.assertIs(head == Head(classes_of(Format(2, 3, tables=[COPIES])), ("at", 0, (0, 1))), True)


class Texts(Case):
    def test_texts_and_back(self):
        dice = random.Random(863)
        for one, other in small_pairs(863, 40):
            classes = classes_of(one, other)
            for second, fmt in ((False, one), (True, other)):
                states = all_states(fmt)
                for state in dice.sample(states, min(30, len(states))):
                    head = Head.kept(classes, state, second=second)
                    self.same(head.text(), slow_text(head.held))
                    back = Head.read(classes, head.text())
                    self.assertIs(type(back), Head)
                    self.same((back.held, back.text()), (head.held, head.text()))
                    self.assertIs(back == head, True)

    def test_by_hand(self):
        classes = classes_of(Format(2, 3, tables=[STOPS], restarts=True))
        head = Head.kept(classes, ((0, ()), "1", [0, 1, 99]))
        self.same(head.text(), "in 1 99\n0 told 1 99 class 0\n1 stopped class 1")
        self.same(Head.kept(classes, ((0, ()), "", (0, 1, 99))).text(), "at 0 1 99")
        flat = classes_of(Format(2, 3, tables=[[(("letter", 0, 0), 2), (("letter", 1, 0), 2), (("turn", 0), 1)]]))
        self.same(Head.kept(flat, ((0, ()), "", (0, 1, 99))).text(), "at 0")
        head = Head.kept(flat, ((0, ()), "1", (0, 1, 99)))
        self.same((head.text(), len(head)), ("in\n0 told 0 class 0\n1 told 1 class 0", 0))
        self.same(Head.read(flat, "in\n0 told 0 class 0\n1 told 1 class 0").held, head.held)
        self.same(Head.read(flat, "at 0").held, ("at", 0, ()))
        stops = classes_of(Format(2, 3, tables=[STOPS]))
        self.same(Head.kept(stops, (ENDED, "", (0, 0, 0))).text(), "at 1")

    def test_texts_that_are_no_heads(self):
        classes = classes_of(Format(2, 3, tables=[STOPS], restarts=True))
        good = ["at 0 1 99", "in 1 99\n0 told 1 99 class 0\n1 stopped class 1"]
        for text in good:
            self.same(Head.read(classes, text).text(), text)
        wrong = [
            "", "at", "in", "on 0 1 99", "at 0", "at 0 1", "at 0 1 99 0", "at 2 1 99", "at 0 1 98", "at 0 1 2", "at 0 1 -1",
            "at 00 1 99", "at 0 01 99", "at 0  1 99", " at 0 1 99", "at 0 1 99 ", "at 0 1 99\n", "\nat 0 1 99", "At 0 1 99",
            "at 0 1 99\n0 told 1 class 0", "at x 1 99", "at 0 1 " + "9" * 5000, "at +0 1 99", "in 1 99", "in 1 99\n",
            "in 1 99\n0 told 1 99 class 0", "in 1 99\n1 stopped class 1\n0 told 1 99 class 0",
            "in 1 99\n0 told 1 99 class 0\n1 stopped class 1\n", "in 1 99\n0 told 1 99 class 0\n1 stopped clas 1",
            "in 1 99\n0 told 1 99 class 0\n1 stopped 1", "in 1 99\n0 told 1 99 class 0\n1 class 1",
            "in 1 99\n0 told 1 99 class 0\n1 stopped 1 class 1", "in 1 99\n0 told 1 99 class 0\n1 stopped class 0",
            "in 1 99\n0 told 1 99 class 0\n1 turned class 1", "in 1 99\n0 told 1 99 99 class 0\n1 stopped class 1",
            "in 1 99\n0 told class 0\n1 stopped class 1", "in 1 99\n0 told 1 0 class 0\n1 stopped class 1",
            "in 1 99\n0 told 01 99 class 0\n1 stopped class 1", "in 1 99\n0 told 1 99 class 00\n1 stopped class 1",
            "in 1 99\n\n0 told 1 99 class 0\n1 stopped class 1", "in 1 99\r\n0 told 1 99 class 0\n1 stopped class 1",
            "in 99\n0 told 1 99 class 0\n1 stopped class 1", "in 1 99\n0 told class class 0\n1 stopped class 1"]
        for text in wrong:
            self.refused(NoState, Head.read, classes, text)
        for text in NO_SERIES + (("at 0 1 99",), b"at 0 1 99", ["at", "0"], ("at", 0, (1, 99))):
            self.refused(NoState, Head.read, classes, text)


class Wrong(Case):
    def test_values_that_are_no_least_states(self):
        fmt = Format(2, 3, tables=[COPIES])
        for classes in (classes_of(fmt), classes_of(fmt, remade(fmt, restarts=True))):
            for wrong in NO_LEASTS + (("at", 0, (1,)), ("at", 0, (0, 2)), ("at", 5, (0, 1))):
                self.refused(NoState, Head, classes, wrong)

    def test_states_that_are_none(self):
        fmt = Format(2, 3, tables=[STOPS])
        for wrong in wrong_states(fmt):
            self.refused(BadState, Head.kept, classes_of(fmt), wrong)
            self.refused(BadState, Head.kept, classes_of(fmt, fmt), wrong, second=True)
        self.refused(BadState, Head.kept, classes_of(fmt), ((0, ()), "", (0, 1, 0)), second=True)

    def test_readers_do_not_change_the_head(self):
        head = Head.kept(classes_of(Format(2, 3, tables=[COPIES])), ((0, ()), "", (0, 1, 0)))
        first = head.reader()
        state, text = first.state, head.text()
        first.feed("010111")
        self.same((head.text(), head.reader().state, head.reader().told()), (text, state, ()))
