"""The examples of the interface, as they are written there: tests/examples.txt holds them."""

import pathlib
import re

from helpers import Case
from leastreader import errors

EXAMPLES = pathlib.Path(__file__).with_name("examples.txt").read_text(encoding="ascii").strip("\n").split("\n\n")
RAISED = re.compile(r"raises (\w+)(?:\((\w+)=(\d+)\))?")


class Examples(Case):
    def test_each_example(self):
        for example in EXAMPLES:
            with self.subTest(example=example):
                rows = example.split("\n")
                code = [row[4:] for row in rows if row.startswith(">>> ")]
                self.assertEqual(len(code), len(rows) - 1)
                self.check(code[:-1], code[-1], rows[-1])

    def check(self, before, last, expected):
        names = {}
        exec("\n".join(before), names)
        raised = RAISED.fullmatch(expected)
        if raised is None:
            self.assertEqual(repr(eval(last, names)), expected)
            return
        error = self.refused(getattr(errors, raised[1]), eval, last, names)
        if raised[2] is not None:
            self.assertEqual(getattr(error, raised[2]), int(raised[3]))

    def test_there_are_examples(self):
        self.assertGreaterEqual(len(EXAMPLES), 17)
