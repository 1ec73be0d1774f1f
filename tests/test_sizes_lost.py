"""Point 0.5: the sizes up to which all statements hold, for machines and lost positions, in good time."""

import random

from leastreader.counts import begun_count, least_count, shapes
from leastreader.formats import Format
from leastreader.joins import closed_pairs, joining, joining_two, never_joined
from leastreader.leastmachines import folded, least_machine, parting_row
from leastreader.lots import classes_of_lot, least_map, lost_lot, moved_lot
from leastreader.machines import Machine
from leastreader.rightness import erring_row, states_map
from leastreader.sure import first_sure, is_sure, sure_answers, sure_row, unsure
from leastreader.turned import heals, healed, spoilt, turned_bit
from losing import chains, slow_behind, standings_600
from machinery import reader_rows, slow_answers
from pairs import classes_of
from slow import slow_deeds, slow_map
from test_counts import many_patterns
from test_leastmachines import JUST_800
from test_sizes import Timed, crowded, large, widest


def phases(*, restarts=False):
    """A format with 589 reached standings; all words have 5 bits, and lost positions never come together."""
    rows = [(("letter", 0, 1), 4)] + [(("again", 0, k, l, 3), 2) for k, l in ((1, 1), (0, 1), (0, 9))]
    rows += [(("again", 0, 0, 17 + k, 0), 5) for k in range(6)]
    return Format(2, 19, recents=(1,), copied="push", tables=[rows], restarts=restarts)


def chained(last):
    """A machine of 800 states whose answers tell nothing before many deeds have led to the last one."""
    rows = [[(("taken",), at + 1), (("taken",), 0)] for at in range(799)]
    return Machine(rows + [[(last, 799), (("taken",), 0)]])


class Machines(Timed):
    def test_800_states(self):
        machine = chained(("refused",))
        self.same(parting_row(machine, 0, 1), ["0"] * 799)
        self.assertEqual(folded(machine), machine)
        self.same(len(folded(chained(("taken",)))), 1)
        self.same(parting_row(chained(("taken",)), 0, 799), None)
        self.assertEqual(machine.renumbered(), machine)
        self.same(len(machine.run("0" * 2000)), 2000)

    def test_a_least_machine_of_800_states(self):
        fmt, window = Format.read(JUST_800), (2, 3)
        machine, leasts = least_machine(fmt, window)
        self.same(len(set(leasts)), 800)
        self.same(erring_row(fmt, window, machine), None)
        self.same(states_map(fmt, window, folded(machine)), dict(enumerate(leasts)))
        rows = reader_rows(fmt, window)[1]
        deeds = random.Random(800).choices(machine.menu, k=2000)
        self.same(machine.run(deeds), slow_answers(rows, machine.menu, deeds)[0])
        self.assertEqual(folded(Machine(rows, restarts=True)) if len(rows) <= 800 else machine, machine)

    def test_10_patterns_of_one_shape(self):
        fmt = many_patterns(10)
        self.same(max(len(patterns) for _, patterns in shapes(fmt)), 10)
        self.assertGreater(begun_count(fmt), 2 ** 9)
        for fmt in (widest(), crowded(), large()):
            self.assertGreater(least_count(fmt), 16 ** 5)


class Lots(Timed):
    def test_600_standings_and_2000_bits(self):
        dice = random.Random(601)
        bits = "".join(dice.choice("01") for _ in range(2000))
        for fmt in (standings_600(), phases(), phases(restarts=True)):
            lot = lost_lot(fmt)
            self.assertGreater(len(lot), 500)
            behind = moved_lot(fmt, lot, bits)
            self.assertTrue({slow_behind(fmt, standing, bits) for standing in lot[::40]} <= set(behind))
            first = first_sure(fmt, lot, bits)
            self.assertEqual(first is not None, is_sure(fmt, lot, bits))
            self.assertEqual(unsure(fmt, lot, bits) is None, first is not None)
            answers = sure_answers(fmt, lot, bits)
            self.same(len(answers), 2000)
            self.assertTrue(first is None or all(answers[first:]))
            groups = classes_of_lot(classes_of(fmt), lot)
            self.same(sum(len(group) for group in groups), len(lot))

    def test_pairs_of_600_standings(self):
        for fmt, apart in ((standings_600(), False), (phases(), True)):
            lot = lost_lot(fmt)
            found = never_joined(fmt)
            self.assertEqual(found is not None, apart)
            for one, other in ((lot[0], lot[-1]), (lot[5], lot[300]), found or lot[:2]):
                bits = joining_two(fmt, one, other)
                pairs = closed_pairs(fmt, one, other)
                self.assertEqual(bits is None, pairs is not None)
                if pairs is not None:
                    self.same(pairs[0], (one, other))
                    self.assertGreater(len(pairs), 20)

    def test_14_classes(self):
        fmt = chains(last=4)
        bits = joining(fmt, lost_lot(fmt))
        self.same(len(classes_of_lot(classes_of(fmt), moved_lot(fmt, lost_lot(fmt), bits))), 1)
        self.assertTrue(is_sure(fmt, lost_lot(fmt), sure_row(fmt)))

    def test_2000_deeds(self):
        dice = random.Random(2002)
        for fmt in (large(), widest(), crowded(), phases()):
            bits = "".join(dice.choice("01") for _ in range(2000))
            standing = ((0, fmt.recents), "")
            state = standing + (tuple(dice.randrange(fmt.n) for _ in range(fmt.width)),)
            places = list(range(1, fmt.width + 1))
            entries = slow_map(fmt, standing, bits)
            self.same(spoilt(fmt, standing, bits, places), [at for at, entry in enumerate(entries) if entry < 0])
            many = heals(fmt, standing, bits, places)
            self.assertTrue(many is None or max(spoilt(fmt, standing, bits, places), default=0) <= len(entries))
            other = turned_bit(bits, 0)
            length = healed(fmt, state, bits, other)
            if length is not None:
                rows = [slow_deeds(fmt, slow_deeds(fmt, state, row[:length])[1], bits[length:])[0] for row in (bits, other)]
                self.same(rows[0], rows[1])
            self.assertIn(least_map(classes_of(fmt), standing, bits)[0], ("at", "in"))
