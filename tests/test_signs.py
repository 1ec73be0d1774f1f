"""Point 31, and what [41] says of sizes and signs."""

import itertools

from helpers import NO_INTEGERS, NO_SERIES, Case, slow_spread
from leastreader.errors import BadSign, BadSize
from leastreader.signs import check_sign, read_sign, shown_sign, spread
from leastreader.tokens import check_token

GREATEST = (16, 24, 4, 6)
NO_SIGNS = NO_SERIES + (
    (), ("letter",), ("letter", 0), ("letter", 0, 0, 0), ("copy", 1, 0, 1), ("copy", 1, 1), ("copy", 1, 0, 1, 0, 0),
    ("again", 0, 0, 1), ("again", 0, 0, 1, 0, 0), ("turn",), ("turn", 0, 0), ("stop", 0), ("go", 1), (1, 2), (None,),
    ["letter", 0, 0], ["copy", 1, 0, 1, 0], ["turn", 0], ["stop"], "stop", [], ([], 1, 1), ({}, 1), (("stop",),))


def is_sign(sign, n, width, many, tables):
    """Everything that it stands for is a token, and the table of a turn exists."""
    extra = {"letter": [sign[2:3]], "copy": [sign[2:3], sign[4:5]], "again": [sign[4:5]]}.get(sign[0], [])
    if any(part[0] not in range(4) for part in extra):
        return False
    for _, token in slow_spread(sign):
        try:
            check_token(token, n, width, many)
        except ValueError:
            return False
    return sign[0] != "turn" or 0 <= sign[1] < tables


def many_signs():
    numbers = (-1, 0, 1, 3, 4)
    for a, x in itertools.product(range(-1, 18), numbers):
        yield ("letter", a, x)
    for d, x in itertools.product((0, 1, 2, 3, 5, 17, 18, 23, 24, 25), numbers):
        for l, y in ((1, 0), (0, 0), (33, 3), (34, 3), (39, 1), (40, 0), (40, 1), (41, 0), (1, 4), (1, -1), (37, 2)):
            yield ("copy", d, x, l, y)
    for i, e in itertools.product((-1, 0, 1, 3, 4), (-1, 0, 1, 4, 5, 23, 24)):
        for l, y in ((1, 0), (0, 0), (33, 3), (34, 3), (40, 0), (1, 4), (1, -1)):
            yield ("again", i, e, l, y)
    for j in range(-1, 8):
        yield ("turn", j)
    yield ("stop",)


class Checked(Case):
    def test_point_31_least_and_greatest_numbers(self):
        seen = [0, 0]
        for sizes in ((2, 1, 0, 1), (3, 5, 1, 2), (8, 8, 2, 3), GREATEST):
            for sign in many_signs():
                valid = is_sign(sign, *sizes)
                seen[valid] += 1
                if valid:
                    self.same(check_sign(sign, *sizes), sign)
                else:
                    self.refused(BadSign, check_sign, sign, *sizes)
        self.assertGreater(min(seen), 200)

    def test_point_31_any_value(self):
        for wrong in NO_SIGNS:
            self.refused(BadSign, check_sign, wrong, *GREATEST)
        for wrong in NO_INTEGERS + (10 ** 50,):
            for sign in (
                    ("letter", wrong, 0), ("letter", 0, wrong), ("copy", wrong, 0, 1, 0), ("copy", 1, wrong, 1, 0),
                    ("copy", 1, 0, wrong, 0), ("copy", 1, 0, 1, wrong), ("again", wrong, 0, 1, 0),
                    ("again", 0, wrong, 1, 0), ("again", 0, 0, wrong, 0), ("again", 0, 0, 1, wrong), ("turn", wrong)):
                self.refused(BadSign, check_sign, sign, *GREATEST)

    def test_point_41_sizes_come_first(self):
        for sign in (("stop",), None, ("letter", 99, 0)):
            for wrong in (-1, 100) + NO_INTEGERS:
                for at in range(4):
                    sizes = [2, 1, 0, 1]
                    sizes[at] = wrong
                    self.refused(BadSize, check_sign, sign, *sizes)
            for sizes in ((1, 1, 0, 1), (17, 1, 0, 1), (2, 0, 0, 1), (2, 25, 0, 1), (2, 1, 5, 1), (2, 1, 0, 0), (2, 1, 0, 7)):
                self.refused(BadSize, check_sign, sign, *sizes)


class Spread(Case):
    def test_point_31_what_signs_stand_for(self):
        seen = 0
        for sign in many_signs():
            if is_sign(sign, *GREATEST):
                found = spread(sign)
                self.same(found, slow_spread(sign))
                self.assertEqual(found, sorted(found))
                seen += 1
            else:
                self.refused(BadSign, spread, sign)
        self.assertGreater(seen, 150)

    def test_point_31_edges(self):
        self.same(spread(("stop",)), [("", ("stop",))])
        self.same(spread(("turn", 5)), [("", ("turn", 5))])
        self.same(spread(("letter", 15, 0)), [("", ("letter", 15))])
        self.same([extra for extra, _ in spread(("copy", 17, 3, 33, 3))], [format(k, "06b") for k in range(64)])
        self.same(spread(("copy", 17, 3, 33, 3))[-1], ("111111", ("copy", 24, 40)))
        self.same(spread(("again", 3, 23, 39, 1)), [("0", ("again", 3, 23, 39)), ("1", ("again", 3, 23, 40))])

    def test_any_value_and_returned_lists(self):
        for wrong in NO_SIGNS:
            self.refused(BadSign, spread, wrong)
            self.refused(BadSign, shown_sign, wrong)
        spread(("stop",)).append(1)
        self.same(spread(("stop",)), [("", ("stop",))])


class Written(Case):
    def test_written_signs_there_and_back(self):
        for sign in many_signs():
            text = " ".join(str(part) for part in sign)
            if is_sign(sign, *GREATEST):
                self.same(shown_sign(sign), text)
                self.same(read_sign(text), sign)
            else:
                self.refused(BadSign, shown_sign, sign)
                self.refused(BadSign, read_sign, text)

    def test_other_strings_and_values_are_refused(self):
        for text in (
                "", " ", "copy 1 0 2", "copy 1 0 2 3 0", "copy 1  0 2 3", " copy 1 0 2 3", "copy 1 0 2 3 ",
                "copy 01 0 2 3", "copy 1 00 2 3", "copy +1 0 2 3", "copy 1 0 2 3\n", "Copy 1 0 2 3", "stop 0", "stop ",
                "turn", "turn 6", "turn x", "letter 0", "letter 0 4", "letter 16 0", "letter 1" + "0" * 6000 + " 0",
                "letter 0 0 0", "go", "1 2", "copy,1,0,2,3", "('stop',)"):
            self.refused(BadSign, read_sign, text)
        for wrong in NO_SIGNS + (b"stop",):
            if wrong != "stop":
                self.refused(BadSign, read_sign, wrong)
