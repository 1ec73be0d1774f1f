"""Points 50 and 54 to 57."""

import itertools

from helpers import NO_INTEGERS, Case
from leastreader.classes import Classes
from leastreader.controls import Controls
from leastreader.covers import Covers
from leastreader.errors import BadBits, BadSize, BadState
from leastreader.formats import Format
from leastreader.nearest import least_distance
from leastreader.placemaps import PlaceMap
from leastreader.reach import Reach
from slow import (
    COPIES, END, GAPS, LETTERS, STOPS, slow_begun, slow_links, slow_needs, slow_reach, slow_rests, slow_steps, slow_count,
    some_formats, taken_walk)


def walk_map(fmt, control, steps):
    """The map of a walk."""
    tokens = [token for token in taken_walk(fmt, control, steps)[0] if token[0] in ("letter", "copy")]
    return PlaceMap.made(tokens, (), fmt.width)


def walks(fmt, control, many):
    """All walks of so many steps."""
    if many == 0:
        return [[]]
    return [[step] + more for step, _, behind in slow_steps(fmt, control) for more in walks(fmt, behind, many - 1)]


class Least(Case):
    def test_point_54_reaches_and_walks_as_short_as_possible(self):
        seen = set()
        for fmt in some_formats(54, 150, most=30, width=(1, 8)):
            reach = Reach(Controls(fmt))
            for number, control in enumerate(reach.controls):
                expected, steps = slow_reach(fmt, control)
                self.same(reach.of(number), expected)
                walk = reach.walk(number)
                self.same(len(walk), steps)
                self.assertIs(type(walk), list)
                seen.add((expected == 0, steps, control == END))
                if expected:
                    tokens, _ = taken_walk(fmt, control, walk)
                    ahead = sum(slow_count(token) for token in tokens[:-1])
                    self.same((tokens[-1][0], tokens[-1][1] - ahead, walk[-1] != "restart"), ("copy", expected, True))
        self.assertTrue({(True, 0, False), (False, 2, True), (False, 3, False), (True, 0, True)} <= seen)

    def test_point_54_the_inequalities_and_nothing_greater(self):
        for fmt in some_formats(541, 60, most=10, width=(1, 5)):
            reach = Reach(Controls(fmt))
            controls = list(reach.controls)
            found = {control: reach.of(number) for number, control in enumerate(controls)}
            least = {control: 0 for control in controls}
            for _ in range(len(controls) * fmt.width + 1):
                for control in controls:
                    for _, plain, behind in slow_steps(fmt, control):
                        if plain is None or plain[0] == "turn":
                            least[control] = max(least[control], least[behind])
                        elif plain[0] == "copy":
                            least[control] = max(least[control], plain[1], least[behind] - plain[2])
            self.same(found, least)

    def test_point_54_by_hand(self):
        reach = Reach(Controls(Format(2, 3, tables=[LETTERS])))
        self.same((reach.of(0), reach.walk(0), reach.noticed(0, 1)), (0, [], None))
        reach = Reach(Controls(Format(2, 9, tables=[STOPS])))
        self.same((reach.of(0), reach.walk(0), reach.of(1), reach.walk(1)), (2, ["10"], 0, []))
        reach = Reach(Controls(Format(2, 9, tables=[STOPS], restarts=True)))
        self.same((reach.of(1), reach.walk(1), reach.noticed(1, 1)), (2, ["restart", "10"], ["restart", "00", "10"]))
        # Table 1 is reached by a turn; its copy is told of 1 letter ahead of it, or none.
        ahead = [(("letter", 0, 1), 1), (("copy", 1, 0, 3, 0), 2), (("turn", 1), 2)]
        far = [(("letter", 0, 1), 1), (("copy", 8, 0, 1, 0), 1)]
        reach = Reach(Controls(Format(2, 9, tables=[ahead, far])))
        self.same((reach.of(0), reach.walk(0), reach.of(1)), (8, ["11", "1"], 8))

    def test_the_controls(self):
        controls = Controls(Format(2, 3, tables=[COPIES]))
        self.assertIs(Reach(controls).controls, controls)


class Noticed(Case):
    def test_point_55_walks_that_notice(self):
        for fmt in some_formats(55, 150, most=30, width=(1, 6)):
            reach = Reach(Controls(fmt))
            for number, control in enumerate(reach.controls):
                for place in range(1, fmt.width + 1):
                    walk = reach.noticed(number, place)
                    if place > reach.of(number):
                        self.same(walk, None)
                        continue
                    # A restart for ENDED, letters, then a walk of [54].
                    behind = walk[1:] if control == END else walk
                    letters = reach.of(number) - place
                    self.same(len(walk), letters + len(reach.walk(number)))
                    self.assertTrue(control != END or walk[0] == "restart")
                    start = 0 if control == END else number
                    self.assertTrue(all(reach.controls.token(start, word)[0] == "letter" for word in behind[:letters]))
                    self.same(behind[letters:], reach.walk(start))
                    entries = list(walk_map(fmt, control, walk))
                    before = list(walk_map(fmt, control, walk[:-1]))
                    self.same(entries[len(before)], -place)

    def test_point_55_places_that_walks_need(self):
        for fmt in some_formats(551, 60, most=6, width=(1, 5), tables=(1, 2), pairs=2):
            reach = Reach(Controls(fmt))
            for number, control in enumerate(reach.controls):
                self.same(slow_needs(fmt, control, ""), list(range(1, reach.of(number) + 1)))
                for many in range(3):
                    for walk in walks(fmt, control, many):
                        made = walk_map(fmt, control, walk)
                        self.assertTrue(all(place <= reach.of(number) for place in made.needs()))
                        copies = [token[1] for token in taken_walk(fmt, control, walk)[0] if token[0] == "copy"]
                        self.assertLessEqual(least_distance(made), max(copies, default=0))

    def test_point_55_reaches_of_one_class_and_of_what_is_covered(self):
        formats = list(some_formats(552, 60, most=12))
        for one, other in zip(formats, formats[1:]):
            for last in (other, one):
                classes = Classes(Controls(one), Controls(last))
                covers = Covers(classes.one, classes.other)
                for a, b in itertools.product(range(len(classes.one)), range(len(classes.other))):
                    first, second = classes.reach().of(a), classes.reach(second=True).of(b)
                    if classes.class_of(a) == classes.class_of(b, second=True):
                        self.same(first, second)
                    if covers.covered(a, b):
                        self.assertLessEqual(first, second)


class Standings(Case):
    def test_points_56_and_57_depths_and_places(self):
        scattered, begun_at = 0, 0
        turned = some_formats(
            561, 250, most=40, width=(5, 8), many=(1, 2), tables=(1, 1), pairs=3, restarts=(False, False, True))
        for fmt in list(some_formats(56, 60, most=10, width=(1, 5))) + list(turned):
            reach = Reach(Controls(fmt))
            for number, control in enumerate(reach.controls):
                for begun in slow_begun(fmt, control):
                    places = reach.places(number, begun)
                    self.same(places, slow_needs(fmt, control, begun))
                    depth = slow_reach(fmt, control)[0]
                    if begun:
                        depth = slow_reach(fmt, (0, fmt.recents))[0] if fmt.restarts else 0
                        for rest in slow_rests(fmt, control, begun):
                            plain, behind = slow_links(fmt, control)[begun + rest]
                            depth = max(depth, slow_reach(fmt, behind)[0] - slow_count(plain))
                    self.same(reach.depth(number, begun), depth)
                    scattered += places != list(range(1, len(places) + 1))
                    begun_at += begun != ""
        self.assertGreater(scattered, 8)
        self.assertGreater(begun_at, 300)

    def test_point_56_places_that_are_not_consecutive(self):
        reach = Reach(Controls(Format(2, 9, tables=[[(("letter", 0, 1), 1), (("copy", 6, 1, 2, 0), 1)]])))
        self.same((reach.depth(0, ""), reach.places(0, "")), (7, [1, 2, 3, 4, 5, 6, 7]))
        self.same((reach.depth(0, "0"), reach.places(0, "0")), (6, [1, 2, 3, 4, 5, 6]))
        self.same((reach.depth(0, "1"), reach.places(0, "1")), (5, [1, 2, 3, 4, 5, 6, 7]))
        # The recents move on by 4 of 6 places with each again, so that what comes behind it looks less far back.
        fmt = Format(2, 6, recents=(5, 2), copied="push", tables=[[(("letter", 0, 1), 1), (("again", 0, 4, 1, 0), 2)]])
        reach = Reach(Controls(fmt))
        number = reach.controls.number_of((0, (1, 3)))
        self.same((reach.of(number), reach.depth(number, "1"), reach.places(number, "1")), (5, 2, [1, 2, 5]))
        allowed = Format(
            2, 6, recents=(5, 2), copied="push", tables=[fmt.table(0).pairs()], restarts=True)
        reach = Reach(Controls(allowed))
        self.same((reach.of(0), reach.of(number), reach.depth(number, "1")), (3, 5, 3))
        self.same(reach.places(number, "1"), [1, 2, 3, 5])


class Values(Case):
    def setUp(self):
        self.reach = Reach(Controls(Format(2, 4, tables=[GAPS + [(("stop",), 5)]])))

    def test_the_least_and_the_greatest_place(self):
        self.same((self.reach.of(0), self.reach.noticed(0, 3), len(self.reach.noticed(0, 1))), (3, ["010"], 3))
        self.same(self.reach.noticed(0, 4), None)
        for wrong in (0, 5, -1) + NO_INTEGERS:
            self.refused(BadSize, self.reach.noticed, 0, wrong)
            self.refused(BadSize, self.reach.noticed, 1, wrong)

    def test_wrong_numbers_and_wrong_bits(self):
        for wrong in (-1, 2, 10 ** 30) + NO_INTEGERS:
            self.refused(BadState, self.reach.of, wrong)
            self.refused(BadState, self.reach.walk, wrong)
            self.refused(BadState, self.reach.noticed, wrong, 0)
            self.refused(BadState, self.reach.depth, wrong, "2")
            self.refused(BadState, self.reach.places, wrong, "2")
        for wrong in ("00", "2", None, 0, ["0"]):
            self.refused(BadBits, self.reach.depth, 0, wrong)
            self.refused(BadBits, self.reach.places, 0, wrong)
        self.refused(BadBits, self.reach.depth, 1, "0")
        self.same((self.reach.depth(1, ""), self.reach.places(1, "")), (0, []))

    def test_lists_that_were_returned_can_be_changed(self):
        for call in (
                lambda: self.reach.walk(0), lambda: self.reach.noticed(0, 2), lambda: self.reach.places(0, "0")):
            before = call()
            call().clear()
            self.same(call(), before)
