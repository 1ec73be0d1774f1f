"""Point 0.5: the sizes up to which all statements hold, for fewest deeds and bits, pieces and the desk, in good time."""

import random

from leastreader.apart import fewest_apart, kinds_within, noticed_within
from leastreader.controls import Controls
from leastreader.desks import Desk
from leastreader.forgets import Forgets
from leastreader.formats import Format
from leastreader.listings import format_lines, heads_lines, machine_lines, table_lines
from leastreader.machines import Machine
from leastreader.noticing import places_of
from leastreader.pieces import Pieces
from leastreader.readers import Reader
from leastreader.soon import Soon
from leastreader.texts import TextWays, shorter_copy
from leastreader.trials import tried
from pairs import classes_of
from slow import slow_deeds, slow_output, some_deeds, unknown
from test_pieces import some_piece
from test_sizes import Timed, crowded, large, widest


def ten_wide():
    """A format of width 10 with 100 reached controls, whose letters have long words."""
    rows = [
        (("letter", 0, 1), 9), (("copy", 1, 3, 1, 0), 5), (("copy", 9, 1, 1, 0), 5), (("copy", 1, 3, 2, 3), 3),
        (("again", 0, 0, 1, 3), 4), (("again", 1, 0, 1, 3), 4), (("again", 0, 3, 5, 3), 4), (("copy", 1, 3, 17, 0), 6)]
    return Format(2, 10, recents=(1, 1), copied="push", tables=[rows])


def sparse():
    """A format of width 10 whose copies carry little on, under each of 6 tables."""
    rows = [(("letter", 0, 1), 9)] + [(("copy", d, 0, 1, 0), 4) for d in (3, 7, 9)] + [(("copy", 10, 0, 7, 0), 6)]
    return Format(2, 10, tables=[rows + [(("turn", (j + 1) % 6), 3)] for j in range(6)])


class Fewest(Timed):
    def test_fewest_deeds_of_large_formats(self):
        dice = random.Random(121)
        for fmt in (large(), widest(), crowded(), ten_wide()):
            soon, classes = Soon(fmt), classes_of(fmt)
            for number, control in enumerate(classes.one):
                for begun in ("", dice.choice(classes.one.begun_words(number))):
                    standing = (control, begun)
                    counts = soon.by_place(standing)
                    places = [at + 1 for at, count in enumerate(counts) if count is not None]
                    self.same(places, places_of(classes, standing))
                    self.same(soon.horizon(standing), max([count for count in counts if count], default=0))
                    self.same(noticed_within(fmt, standing, soon.horizon(standing)), places)
                    self.same(kinds_within(fmt, standing, 10 ** 20), fmt.n ** len(places))
                    if places:
                        place = dice.choice(places)
                        deeds = soon.stream(standing, place)
                        self.same(len(deeds), counts[place - 1])
                        answers = slow_deeds(fmt, standing + (unknown(fmt.width),), deeds)[0]
                        self.assertIn(-place, slow_output(answers[-1:]))
                        window = (0,) * fmt.width
                        other = tuple(int(p == place) for p in range(fmt.width, 0, -1))
                        self.same(fewest_apart(fmt, standing, window, other)[0], counts[place - 1])

    def test_windows_of_width_10_forgotten(self):
        for fmt in (ten_wide(), sparse()):
            forgets = Forgets(fmt)
            for number in range(0, len(Controls(fmt)), 7):
                way = forgets.way(number)
                self.same(len("".join(way)), forgets.of(number))
                now, known = number, ()
                for word in way:
                    known = forgets.known_behind(now, word, known)
                    now = Controls(fmt).behind(now, word)
                self.same(known, list(range(1, 11)))
                self.assertLess(forgets.of(number, (1, 2, 3)), forgets.of(number))

    def test_texts_of_400_letters(self):
        dice = random.Random(400)
        for fmt in (large(), widest(), crowded(), ten_wide()):
            for text in ([dice.randrange(2) for _ in range(400)], [0] * 400, [dice.choice((0, at % 7 % fmt.n)) for at in range(400)]):
                window = tuple(dice.randrange(fmt.n) for _ in range(fmt.width))
                ways = TextWays(fmt, window, text)
                for number in (0, len(Controls(fmt)) - 1):
                    if ways.of(number) is None:
                        continue
                    way, control = ways.way(number), Controls(fmt).at_number(number)
                    self.same(len(ways.bits(number)), ways.of(number))
                    answers = slow_deeds(fmt, (control, "", window), ways.bits(number))[0]
                    self.same(slow_output(answers), text)
                    self.same(ways.drops(number, way), [len(word) for word in way])
                    self.assertIsNotNone(shorter_copy(fmt, number))


class Desks(Timed):
    def test_60_pieces(self):
        dice = random.Random(60)
        for fmt in (large(), widest(), crowded()):
            rows = [some_piece(dice, fmt) for _ in range(60)]
            pieces = Pieces(fmt, rows)
            many = pieces.bounds(59)[1]
            self.assertGreater(many, 500)
            window = tuple(dice.randrange(fmt.n) for _ in range(fmt.width))
            reader = Reader(fmt, window=window)
            for bits in rows:
                reader.feed(["restart"] + list(bits))
            self.same(pieces.told(window), reader.told())
            for k in range(60):
                numbers, piece = pieces.late(k)
                self.assertTrue(piece is None or piece >= k)
                self.assertTrue(all(number >= pieces.bounds(k)[0] for number in numbers))
                spoilt = pieces.spoilt([k])
                self.assertTrue(set(range(*pieces.bounds(k))) <= set(spoilt))
                self.assertTrue(k in pieces.needed(*pieces.bounds(k)) or pieces.letters(k) == 0)
            self.same(pieces.spoilt(list(range(60))), list(range(many)))
            self.same(len(pieces.joined(pieces)), 120)

    def test_2000_deeds_and_100_heads(self):
        dice = random.Random(2003)
        for fmt in (large(), widest(), crowded()):
            deeds = some_deeds(dice, 2000, ("0", "1") * 40 + ("restart", "loss"))
            window = tuple(dice.randrange(fmt.n) for _ in range(fmt.width))
            answers, state = slow_deeds(fmt, ((0, fmt.recents), "", window), deeds)
            desk = Desk(fmt, window=window)
            for name in range(100):
                self.same(desk.feed(deeds[20 * name:20 * name + 20]), answers[20 * name:20 * name + 20])
                desk.keep(name)
            self.same((desk.state, desk.told_text), (state, tuple(slow_output(answers))))
            self.same(len(heads_lines(desk)), 100)
            self.same(tried(desk, [("undo", 2000)] + deeds + [("go on", 50)]), [None] + answers + [None])
            for name in range(0, 99, 7):
                desk.go_on(name)
                self.same(desk.feed(deeds[20 * name + 20:]), answers[20 * name + 20:])
            other = Desk(fmt, window=window)
            other.feed(deeds)
            self.same((desk.alike(other), desk.parting(other)), (True, None))
            other.undo(2000)
            self.same(other.state, ((0, fmt.recents), "", window))
            twin = desk.twin()
            with desk.trial():
                desk.lose(2000)
            self.same((twin.state, twin.told_text, twin.names()), (desk.state, desk.told_text, list(range(100))))

    def test_lines_of_large_formats(self):
        fmt = large()
        self.same((len(format_lines(fmt)), len(table_lines(fmt.table(0)))), (150, len(fmt.table(0))))
        rows = [[(("taken",), at), (("told", (at % 16,)), 799 - at)] for at in range(800)]
        self.same(machine_lines(Machine(rows))[799], "799 | 0 taken 799 | 1 told 15 0")
