"""Points 3, 13 and 14, as far as the module tokens shows them."""

import itertools

from helpers import NO_INTEGERS, NO_SERIES, Case
from leastreader.errors import BadSize, BadToken
from leastreader.tokens import check_token, read_token, shown_token

NO_TOKENS = NO_SERIES + (
    (), ("letter",), ("letter", 0, 0), ("copy", 1), ("copy", 1, 1, 1), ("again", 0, 0), ("again", 0, 0, 1, 1),
    ("turn",), ("turn", 0, 0), ("stop", 0), ("go",), ("Letter", 0), ("", 0), (b"stop",), (None, 0), (0, 1), (("stop",),),
    ["letter", 0], ["copy", 1, 1], ["again", 0, 0, 1], ["turn", 0], ["stop"], "stop", [], ([], 1), ({}, 1))


def is_token(token, n, width, many):
    ranges = {
        "letter": [range(n)], "copy": [range(1, width + 1), range(1, 41)],
        "again": [range(many), range(width), range(1, 41)], "turn": [range(6)], "stop": []}
    return all(part in allowed for part, allowed in zip(token[1:], ranges[token[0]]))


class Checked(Case):
    def check(self, token, n, width, many):
        if is_token(token, n, width, many):
            self.same(check_token(token, n, width, many), token)
        else:
            self.refused(BadToken, check_token, token, n, width, many)

    def test_point_3_least_and_greatest_numbers(self):
        numbers = (-1, 0, 1, 2, 3, 4, 5, 6, 15, 16, 23, 24, 25, 40, 41, 10 ** 40)
        for n, width, many in itertools.product((2, 16), (1, 5, 24), (0, 1, 4)):
            self.check(("stop",), n, width, many)
            for one in numbers:
                self.check(("letter", one), n, width, many)
                self.check(("turn", one), n, width, many)
                for other in numbers:
                    self.check(("copy", one, other), n, width, many)
                    for third in (0, 1, 40, 41):
                        self.check(("again", one, other, third), n, width, many)

    def test_point_3_no_recents_no_again(self):
        self.refused(BadToken, check_token, ("again", 0, 0, 1), 2, 4, 0)
        self.same(check_token(("again", 0, 0, 1), 2, 1, 1), ("again", 0, 0, 1))

    def test_point_3_no_tokens(self):
        for token in NO_TOKENS:
            self.refused(BadToken, check_token, token, 16, 24, 4)
        for wrong in NO_INTEGERS:
            for token in (("letter", wrong), ("copy", wrong, 1), ("copy", 1, wrong), ("turn", wrong)):
                self.refused(BadToken, check_token, token, 16, 24, 4)
            for token in (("again", wrong, 0, 1), ("again", 0, wrong, 1), ("again", 0, 0, wrong)):
                self.refused(BadToken, check_token, token, 16, 24, 4)

    def test_point_14_sizes_come_first(self):
        for token in (("stop",), None, ("letter", 99)):
            for wrong in (-1, 100) + NO_INTEGERS:
                self.refused(BadSize, check_token, token, wrong, 1, 0)
                self.refused(BadSize, check_token, token, 2, wrong, 0)
                self.refused(BadSize, check_token, token, 2, 1, wrong)
            for n, width, many in ((1, 1, 0), (17, 1, 0), (2, 0, 0), (2, 25, 0), (2, 1, 5)):
                self.refused(BadSize, check_token, token, n, width, many)


class Written(Case):
    def test_point_13_written_forms(self):
        self.same(shown_token(("copy", 4, 2)), "copy 4 2")
        self.same(shown_token(("stop",)), "stop")
        self.same(shown_token(("again", 0, 3, 1)), "again 0 3 1")
        self.same(shown_token(("letter", 10)), "letter 10")
        self.same(shown_token(("turn", 0)), "turn 0")
        self.same(read_token("letter 0"), ("letter", 0))

    def test_point_13_there_and_back_with_any_integers(self):
        numbers = (0, 1, 9, 10, 41, 99, 100, 2 ** 200)
        tokens = [("stop",)]
        for one, other in itertools.product(numbers, repeat=2):
            tokens += [("letter", one), ("turn", one), ("copy", one, other), ("again", one, other, one)]
        for token in tokens:
            text = shown_token(token)
            if len(text) <= 200:
                self.same(read_token(text), token)

    def test_point_13_what_is_not_shown(self):
        for token in NO_TOKENS + (("letter", -1), ("copy", 1, -1), ("again", 0, -2, 1), ("turn", -1)):
            self.refused(BadToken, shown_token, token)
        for wrong in NO_INTEGERS:
            self.refused(BadToken, shown_token, ("letter", wrong))
            self.refused(BadToken, shown_token, ("copy", 1, wrong))

    def test_point_13_other_strings_are_refused(self):
        for text in (
                "", " ", "copy 4  2", " copy 4 2", "copy 4 2 ", "copy 4", "copy", "copy 4 2 1", "copy 04 2", "copy 4 00",
                "copy +4 2", "copy -4 2", "copy 4_0 2", "copy 4.0 2", "copy 4 2\n", "\ncopy 4 2", "copy\n4 2", "copy,4,2",
                "Copy 4 2", "stop ", "stop 0", " stop", "stop\n", "turn", "turn x", "turn 0x1", "letter", "letter a",
                "letter 0 0", "go 1", "4 2", "copy4 2", "again 0 1", "again 0 1 1 1", "letter 01", "stopstop", "0",
                "('stop',)", "copy 4 \n2", "letter \u00b2", "letter \u0663", "letter " + "1" * 150 + "x"):
            self.refused(BadToken, read_token, text)

    def test_point_13_no_strings_are_refused(self):
        for wrong in NO_SERIES + (("stop",), b"stop", ["stop"], "x"):
            self.refused(BadToken, read_token, wrong)
