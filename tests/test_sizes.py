"""Point 0.5: the sizes up to which all statements hold, for formats, readers and least states, in good time."""

import itertools
import random
import time

from helpers import Case
from leastreader.alikes import alike, parting_future, parting_stream, read_alike
from leastreader.classes import Classes
from leastreader.controls import Controls
from leastreader.covers import Covers
from leastreader.formats import Format
from leastreader.heads import Head
from leastreader.heard import heard_places
from leastreader.leasts import least_state, state_with
from leastreader.nexts import least_behind, next_least
from leastreader.noticing import noticed_by, places_of, unsettled
from leastreader.patterns import alike_windows, pattern_of, unlike_rest
from leastreader.reach import Reach
from leastreader.readers import Reader
from leastreader.rests import first_apart, kinds, needs_of_all
from leastreader.states import done
from leastreader.streams import (
    bits_of, deeds_map, each_stream, first_refused, letters_bits, streams_of, tokens_of)
from slow import (
    remade, slow_controls, slow_deeds, slow_output, slow_standings, some_deeds, some_state, unknown, written_tokens)

SECONDS = 60


def large(*, heard=True, apart=True, restarts=True):
    """A format with 150 reached controls and 6 tables of about 100 words."""
    tables = []
    for j in range(6):
        rows = [
            (("letter", 0, 3), 4), (("letter", 8, 3), 4), (("copy", 1, 2, 1, 3), 4), (("copy", 5, 0, 1, 3), 4),
            (("copy", 1, 2, 30 + j * apart, 2), 4), (("copy", 5, 0, 33, 3), 5), (("turn", (j + 1) % 6), 4)]
        if heard:
            rows += [(("again", 0, 0, 1, 3), 4), (("again", 1, 0, 1, 2), 4), (("again", 0, 1, 1, 2), 4)]
        tables.append(rows)
    return Format(16, 5, recents=(1, 1), copied="push", tables=tables, restarts=restarts)


def widest():
    """A format of the greatest width and with 4 recents, of which the letters, turns and agains make few controls."""
    rows = [(("letter", 0, 3), 3), (("letter", 8, 3), 3), (("again", 3, 23, 40, 0), 3), (("again", 1, 0, 33, 3), 3)]
    tables = [rows + [(("turn", (j + 1) % 6), 3), (("copy", 17, 3, 1, 3), 3)] for j in range(6)]
    return Format(16, 24, recents=(24, 1, 13, 24), copied="keep", again="swap", tables=tables, restarts=True)


def crowded():
    """A format of one table with 40 pairs and 119 words, 7 reached controls and about 600 reached standings."""
    rows = [(("letter", 0, 3), 4), (("letter", 8, 3), 4), (("copy", 1, 3, 1, 3), 3)]
    rows += [(("copy", 9 + k, 0, 2 + k, 0), 7) for k in range(12)]
    rows += [(("again", k % 3, 0, 1 + k, 0), 10) for k in range(24)] + [(("stop",), 10)]
    return Format(16, 24, recents=(1, 5, 24, 9), copied="keep", again="swap", tables=[rows], restarts=True)


class Timed(Case):
    def setUp(self):
        began = time.monotonic()
        self.addCleanup(lambda: self.assertLess(time.monotonic() - began, SECONDS))


class Formats(Timed):
    def test_150_reached_controls(self):
        for heard, apart, count in ((True, True, 150), (True, False, 25), (False, True, 6), (False, False, 1)):
            fmt = large(heard=heard, apart=apart)
            controls = Controls(fmt)
            self.same(list(controls), list(slow_controls(fmt)))
            self.same(len(controls), 150)
            reach = Reach(controls)
            self.same([reach.of(number) for number in range(150)], [5] * 150)
            for number in range(150):
                for place in range(1, 6):
                    self.same(len(reach.noticed(number, place)), 6 - place)
            classes = Classes(controls)
            self.same(classes.count(), count)
            self.assertTrue(classes.marks_fit([classes.class_of(number) for number in range(150)]))
            twice = Classes(controls, Controls(large(heard=heard, apart=apart)))
            self.same(twice.count(), count)
            covers = Covers(controls, twice.other)
            for a, b in itertools.product(range(150), range(150)):
                self.assertEqual(covers.covered(a, b), classes.class_of(a) == classes.class_of(b))
                found = classes.walk(a, b)
                self.assertEqual(found is None, classes.class_of(a) == classes.class_of(b))
            self.same(heard_places(fmt), [[0, 1] if heard else []] * 6)

    def test_two_large_formats(self):
        one, other = Controls(large()), Controls(large(apart=False, restarts=False))
        classes = Classes(one, other)
        self.same(classes.count(), 175)
        covers = Covers(other, one)
        self.same(sum(covers.covered(a, b) for a in range(150) for b in range(150)), 0)

    def test_4_recents_and_width_24(self):
        for fmt in (widest(), crowded()):
            controls = Controls(fmt)
            self.same(list(controls), list(slow_controls(fmt)))
            reach = Reach(controls)
            standings = [(k, begun) for k in range(len(controls)) for begun in controls.begun_words(k)]
            self.assertGreater(len(standings), 350)
            for number, begun in standings:
                self.assertLessEqual(reach.depth(number, begun), 24)
                self.assertTrue(set(reach.places(number, begun)) <= set(range(1, 25)))
            self.same(reach.of(0), 24)
            classes = Classes(controls)
            for a, b in itertools.product(range(len(controls)), repeat=2):
                self.assertEqual(classes.walk(a, b) is None, classes.class_of(a) == classes.class_of(b))


class Long(Timed):
    def test_futures_of_2000_deeds(self):
        dice = random.Random(2000)
        for fmt in (large(), widest(), crowded()):
            deeds = some_deeds(dice, 2000, ("0", "1") * 40 + ("restart", "loss"))
            window = tuple(dice.randrange(16) for _ in range(fmt.width))
            answers, state = slow_deeds(fmt, ((0, fmt.recents), "", window), deeds)
            reader = Reader(fmt, window=window)
            self.same(reader.feed(deeds), answers)
            self.same((reader.state, reader.told()), (state, tuple(slow_output(answers))))
            self.same(reader.twin().told(), reader.told())
            self.same(deeds_map(fmt, ((0, fmt.recents), ""), deeds).filled(window), reader.told())
            now = ((0, fmt.recents), "", window)
            for deed, expected in zip(deeds, answers):
                answer, now = done(fmt, now, deed)
                self.same(answer, expected)

    def test_300_tokens_and_2000_bits(self):
        dice = random.Random(300)
        for fmt in (large(), widest()):
            start = (0, fmt.recents)
            bits = "".join(some_deeds(dice, 2000, "01"))
            tokens, rest, refused = tokens_of(fmt, start, bits)
            self.assertGreater(len(tokens), 200)
            kept = "".join(bit for at, bit in enumerate(bits) if at not in set(refused))
            self.same(tokens_of(fmt, start, kept), (tokens, rest, []))
            self.same(first_refused(fmt, (start, "", (0,) * fmt.width), kept), None)
            tokens = written_tokens(dice, fmt, start, 300)
            self.same(len(tokens), 300)
            self.same(tokens_of(fmt, start, bits_of(fmt, start, tokens)), (tokens, "", []))
            row = [dice.randrange(16) for _ in range(2000)]
            found = tokens_of(fmt, start, letters_bits(fmt, start, row))
            self.same(found, ([("letter", letter) for letter in row], "", []))

    def test_40_bits_counted(self):
        for fmt in (large(), widest(), crowded()):
            standing = ((0, fmt.recents), "")
            counts = [streams_of(fmt, standing, many) for many in range(41)]
            self.same(counts[0], 1)
            self.assertTrue(all(a <= b <= 2 * a for a, b in zip(counts, counts[1:])))
            found = list(itertools.islice(each_stream(fmt, standing, 40), 300))
            self.same(found, sorted(set(found)))
            self.same({len(bits) for bits in found}, {40})
            self.same(len(list(each_stream(fmt, standing, 12))), counts[12])


class Leasts(Timed):
    def test_states_of_600_standings(self):
        dice = random.Random(600)
        for fmt in (widest(), crowded()):
            classes = Classes(Controls(fmt))
            standings = slow_standings(fmt)
            for standing in standings:
                state = some_state(dice, fmt, [standing])
                held = least_state(classes, state)
                found = state_with(classes, held)
                self.same(least_state(classes, found), held)
                self.assertTrue(alike(classes, state, found))
                places = places_of(classes, standing)
                for place in places[:1] + places[-1:]:
                    deeds = noticed_by(classes, standing, place)
                    answers = slow_deeds(fmt, standing + (unknown(24),), deeds)[0]
                    self.assertIn(-place, answers[-1][1])
                self.same(unsettled(classes, standing, places), None)
                other = some_state(dice, fmt, standings)
                if not alike(classes, state, other):
                    deeds = parting_future(classes, state, other)
                    one, last = slow_deeds(fmt, state, deeds)[0], slow_deeds(fmt, other, deeds)[0]
                    self.same(one[:-1], last[:-1])
                    self.assertNotEqual(one[-1], last[-1])
                count, window = alike_windows(classes, standing, other[:2])
                self.assertTrue(count == 0 or unlike_rest(classes, standing, other[:2], window) is None)

    def test_2000_deeds_from_least_states(self):
        dice = random.Random(2001)
        for fmt in (large(), crowded()):
            classes, deeds = Classes(Controls(fmt)), some_deeds(dice, 2000, ("0", "1") * 40 + ("restart", "loss"))
            state = ((0, fmt.recents), "", tuple(dice.randrange(16) for _ in range(fmt.width)))
            answers, behind = slow_deeds(fmt, state, deeds)
            held = least_state(classes, state)
            self.same(least_behind(classes, held, deeds), (answers, least_state(classes, behind)))
            now = held
            for deed, answer in zip(deeds, answers):
                met, now = next_least(classes, now, deed)
                self.same(met, answer)
            self.same(now, least_state(classes, behind))
            heads = [Head.kept(classes, slow_deeds(fmt, state, deeds[:cut])[1]) for cut in range(0, 2000, 20)]
            texts = [head.text() for head in heads]
            self.assertTrue(all(Head.read(classes, text) == head for text, head in zip(texts, heads)))

    def test_two_large_formats(self):
        dice = random.Random(150)
        one, other = large(), large(apart=False)
        classes = Classes(Controls(one), Controls(other))
        first, last = slow_controls(one), slow_controls(other)
        for control, met in zip(first, reversed(last)):
            a, b = some_state(dice, one, [(control, "")]), some_state(dice, other, [(met, "")])
            self.assertFalse(read_alike(classes, a, b, second=True))
            for deeds in (parting_stream(classes, a, b, second=True), parting_future(classes, a, b, second=True)):
                answers, unlike = slow_deeds(one, a, deeds)[0], slow_deeds(other, b, deeds)[0]
                self.same(answers[:-1], unlike[:-1])
                self.assertNotEqual(answers[-1], unlike[-1])
            self.same(pattern_of(classes, (control, ""))[2], 5)
        same = Classes(Controls(one), Controls(remade(one, restarts=True)))
        for control in list(first)[::10]:
            state = some_state(dice, one, [(control, "")])
            self.assertTrue(read_alike(same, state, state, second=True))
            self.same(parting_future(same, state, state, second=True), None)

    def test_futures_of_2000_deeds_known_ahead(self):
        dice = random.Random(87)
        for fmt in (large(), widest(), crowded()):
            futures = [some_deeds(dice, 2000, ("0", "1") * 40 + ("restart",)) for _ in range(5)]
            standing = ((0, fmt.recents), "")
            places = needs_of_all(fmt, standing, futures)
            self.same(kinds(fmt, standing, futures), 16 ** len(places))
            window = tuple(dice.randrange(15) for _ in range(fmt.width))
            other = tuple(15 if p in places else window[-p] for p in range(fmt.width, 0, -1))
            self.assertTrue(any(first_apart(fmt, standing, deeds, window, other) is not None for deeds in futures))
            rest = tuple(15 if p not in places else window[-p] for p in range(fmt.width, 0, -1))
            self.same([first_apart(fmt, standing, deeds, window, rest) for deeds in futures], [None] * 5)
