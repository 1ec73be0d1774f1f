"""Points 136 to 141."""

import random

from helpers import NO_INTEGERS, NO_SERIES, Case
from leastreader.errors import BadFormat, BadPieces, BadSize, BadWindow, NotAllowed, TooLarge
from leastreader.formats import Format
from leastreader.leasts import least_state
from leastreader.pieces import Pieces
from leastreader.readers import Reader
from losing import windows_of
from pairs import classes_of
from slow import COPIES, END, GAPS, LETTERS, STOPS, remade, slow_controls, slow_links, some_formats
from test_controls import crowd
from test_streams import NO_BITS

FMT = Format(2, 3, tables=[COPIES], restarts=True)


def formats(seed, count):
    for rows in (COPIES, GAPS, STOPS, LETTERS):
        yield Format(2, 3, tables=[rows], restarts=True)
    # Copies reach far back, over the bounds of pieces and of the stream.
    yield Format(2, 6, tables=[[(("letter", 0, 1), 2), (("copy", 1, 2, 1, 1), 1), (("copy", 5, 1, 1, 0), 2)]], restarts=True)
    yield from some_formats(seed, count, most=10, n=(2, 3), width=(1, 4), restarts=(True,))


def some_piece(dice, fmt):
    """Words from the start on; a stop may be the last one."""
    control, words = (0, fmt.recents), []
    for _ in range(dice.choice([0, 1, 1, 2, 3, 4])):
        if control != END:
            words.append(dice.choice(list(slow_links(fmt, control))))
            control = slow_links(fmt, control)[words[-1]][1]
    return "".join(words)


def some_pieces(dice, fmt, most=5):
    return [some_piece(dice, fmt) for _ in range(dice.randint(0, most))]


def read_through(fmt, rows, window, lost, first=0):
    """The output by the words of point 136, and the states behind the pieces."""
    reader, states = Reader(fmt, window=window), []
    for at, bits in enumerate(rows):
        if at < first:
            continue
        many = len(Reader(fmt).feed(bits)) and sum(len(a[1]) for a in Reader(fmt).feed(bits) if a[0] == "told")
        if at not in lost:
            reader.restart()
            reader.feed(bits)
        elif many:
            reader.lose(many)
        else:
            reader.restart()
        states.append(reader.state)
    return reader.told(), states


def slow_entries(fmt, rows):
    """For each letter its piece, and by the words of point 137 its source and the letter of a letter word."""
    found, number = [], 0
    for piece, bits in enumerate(rows):
        control, begun = (0, fmt.recents), ""
        for bit in bits:
            begun += bit
            if begun in slow_links(fmt, control):
                plain, control = slow_links(fmt, control)[begun]
                begun = ""
                for _ in range({"letter": 1, "copy": plain[-1]}.get(plain[0], 0)):
                    back = number - plain[1]
                    copied = ("letter", back) if back >= 0 else ("place", -back)
                    found.append((piece, None if plain[0] == "letter" else copied))
                    number += 1
    return found


def depends_on(entries, at):
    """The letters on which a letter depends, and the place of the window, if one is among its sources."""
    found, place = [], None
    while at is not None:
        found.append(at)
        source = entries[at][1]
        at = source[1] if source is not None and source[0] == "letter" else None
        place = source[1] if source is not None and source[0] == "place" else place
    return found, place


def some_streams(seed, count, times=3):
    dice = random.Random(seed)
    for fmt in formats(seed, count):
        for _ in range(times):
            rows = some_pieces(dice, fmt)
            yield dice, fmt, rows, Pieces(fmt, rows)


class Streams(Case):
    def test_points_136_to_138_the_output(self):
        seen = set()
        for dice, fmt, rows, pieces in some_streams(136, 60):
            self.same(len(pieces), len(rows))
            entries = slow_entries(fmt, rows)
            for _ in range(3):
                lost = [at for at in range(len(rows)) if dice.random() < 0.4]
                window = tuple(dice.choice(list(range(fmt.n)) + [99]) for _ in range(fmt.width))
                expected = read_through(fmt, rows, window, lost)[0]
                for given in (lost, tuple(lost[::-1]), lost + lost):
                    self.same(pieces.told(list(window), lost=given), expected)
                seen.add((len(lost) == 0, len(lost) == len(rows), 99 in expected))
            self.same(pieces.told(window), read_through(fmt, rows, window, ())[0])
            self.same([pieces.source(at) for at in range(len(entries))], [source for _, source in entries])
            bounds = [pieces.bounds(k) for k in range(len(rows))]
            self.same([end - start for start, end in bounds], [pieces.letters(k) for k in range(len(rows))])
            self.same([at for at, (start, end) in enumerate(bounds) for _ in range(start, end)], [piece for piece, _ in entries])
            self.assertTrue(all(isinstance(pair, tuple) for pair in bounds))
            self.same([start for start, _ in bounds] + [len(entries)], [0] * (not rows) + [0] * bool(rows) + [end for _, end in bounds])
        self.assertTrue({(True, False, False), (False, True, True), (False, False, True), (True, True, False)} <= seen)

    def test_point_139_spoilt_letters(self):
        found = set()
        for dice, fmt, rows, pieces in some_streams(139, 60):
            entries = slow_entries(fmt, rows)
            for _ in range(3):
                lost = [at for at in range(len(rows)) if dice.random() < 0.4]
                expected = [
                    at for at in range(len(entries)) if any(entries[on][0] in lost for on in depends_on(entries, at)[0])]
                for given in (lost, tuple(lost[::-1]), lost + lost):
                    self.same(pieces.spoilt(given), expected)
                for _ in range(2):
                    window = tuple(dice.randrange(fmt.n) for _ in range(fmt.width))
                    told, whole = pieces.told(window, lost=lost), pieces.told(window)
                    self.same([at for at, entry in enumerate(told) if entry == 99], expected)
                    self.assertTrue(all(told[at] == whole[at] for at in range(len(told)) if at not in expected))
                found.add(any(entries[at][0] not in lost for at in expected))
        self.same(sorted(found), [False, True])

    def test_point_140_needed_pieces(self):
        sizes = set()
        for dice, fmt, rows, pieces in some_streams(140, 60):
            entries = slow_entries(fmt, rows)
            for _ in range(4):
                a, b = sorted(dice.randint(0, len(entries)) for _ in range(2))
                expected = sorted({entries[on][0] for at in range(a, b) for on in depends_on(entries, at)[0]})
                self.same(pieces.needed(a, b), expected)
                self.same(pieces.needed(a, a), [])
                window = tuple(dice.randrange(fmt.n) for _ in range(fmt.width))
                for piece in range(len(rows)):
                    hole = 99 in pieces.told(window, lost=[piece])[a:b]
                    self.assertEqual(hole, piece in expected)
                sizes.add(len(expected))
        self.assertTrue({0, 1, 2, 3} <= sizes)

    def test_point_141_a_reader_that_comes_late(self):
        seen = set()
        for dice, fmt, rows, pieces in some_streams(141, 50):
            entries, classes = slow_entries(fmt, rows), classes_of(fmt)
            for k in range(len(rows)):
                first = pieces.bounds(k)[0]
                told, late = read_through(fmt, rows, (99,) * fmt.width, (), k)
                numbers = [first + at for at, entry in enumerate(told) if entry != 99]
                self.same(numbers, [
                    at for at in range(first, len(entries))
                    if min(depends_on(entries, at)[0]) >= first and depends_on(entries, at)[1] is None])
                steps = []
                windows = dice.sample(windows_of(fmt), min(5, fmt.n ** fmt.width))
                for window in windows:
                    whole = read_through(fmt, rows, window, ())[1][k:]
                    steps.append([least_state(classes, a) == least_state(classes, b) for a, b in zip(late, whole)])
                self.same(len({str(row) for row in steps}), 1)
                self.same(steps[0], sorted(steps[0]))
                expected = k + steps[0].index(True) if True in steps[0] else None
                found = pieces.late(k)
                self.assertIsInstance(found, tuple)
                self.same(found, (numbers, expected))
                seen.add((expected is None, expected == k, k > 0))
        self.same(len(seen), 6)

    def test_point_141_by_hand(self):
        pieces = Pieces(FMT, ["0001", "11", "1000", "", "00"])
        self.same(pieces.late(0), ([0, 1, 2, 3, 4, 5], 0))
        self.same(pieces.late(1), ([4, 5], 4))
        self.same(pieces.late(3), ([5], None))
        plain = Pieces(Format(2, 3, tables=[LETTERS], restarts=True), ["", "0"])
        self.same((plain.late(0), plain.late(1)), (([0], 0), ([0], 1)))

    def test_joined(self):
        found = 0
        for dice, fmt, rows, pieces in some_streams(142, 30):
            others = some_pieces(dice, fmt)
            same = remade(fmt)
            joined = pieces.joined(Pieces(same, others))
            self.assertIsInstance(joined, Pieces)
            window = tuple(dice.randrange(fmt.n) for _ in range(fmt.width))
            self.same((len(joined), joined.told(window)), (len(rows + others), Pieces(fmt, rows + others).told(window)))
            entries = slow_entries(fmt, rows + others)
            self.same([joined.source(at) for at in range(len(entries))], [source for _, source in entries])
            self.same(len(pieces), len(rows))
            found += any(source and source[0] == "letter" and entries[source[1]][0] < len(rows) <= piece for piece, source in entries)
        self.assertGreater(found, 10)
        for other in (remade(FMT, width=4), remade(FMT, tables=[STOPS]), remade(FMT, copied="push")):
            self.refused(BadFormat, Pieces(FMT, ["00"]).joined, Pieces(other, []))


class Wrong(Case):
    def test_no_restarts(self):
        for rows in (["00"], None, ["0"]):
            self.refused(NotAllowed, Pieces, remade(FMT, restarts=False), rows)
        self.refused(NotAllowed, Pieces, crowd(last=[(("stop",), 3)]), ["0"])
        self.same(self.refused(TooLarge, Pieces, remade(crowd(last=[(("stop",), 3)]), restarts=True), ["0000"]).limit, 150)

    def test_what_is_no_piece(self):
        for wrong in NO_BITS + NO_INTEGERS + ("0", "1", "000", "00110", ["00"], ("00",)):
            if wrong == "1" or not isinstance(wrong, str) or len(wrong) % 2 or set(wrong) - {"0", "1"}:
                self.same(self.refused(BadPieces, Pieces, FMT, [wrong]).at, 0)
                self.same(self.refused(BadPieces, Pieces, FMT, ("00", "", wrong, None, "0")).at, 2)
        for wrong in NO_SERIES:
            self.same(self.refused(BadPieces, Pieces, FMT, wrong).at, 0)
        stops = Format(2, 2, tables=[STOPS], restarts=True)
        self.same(len(Pieces(stops, ["0011", "11", ""])), 3)
        for wrong in ("1100", "110", "1111", "001"):
            self.same(self.refused(BadPieces, Pieces, stops, ["11", wrong]).at, 1)
        gaps = Format(2, 3, tables=[GAPS], restarts=True)
        self.same(self.refused(BadPieces, Pieces, gaps, ["00", "00101"]).at, 1)

    def test_indexes_and_numbers(self):
        pieces, empty = Pieces(FMT, ["0001", "", "1000"]), Pieces(FMT, ())
        self.same([pieces.bounds(k) for k in range(3)], [(0, 2), (2, 2), (2, 4)])
        self.same([pieces.letters(k) for k in range(3)], [2, 0, 2])
        for wrong in NO_INTEGERS + (-1, 3, 10 ** 30):
            for call in (pieces.bounds, pieces.letters, pieces.late):
                self.refused(BadSize, call, wrong)
            self.refused(BadSize, pieces.spoilt, [0, wrong])
            self.refused(BadSize, pieces.told, (0, 0, 0), lost=(wrong, 0))
            self.refused(BadWindow, pieces.told, (0, 0), lost=(wrong,))
        for wrong in NO_INTEGERS + (-1, 4, 10 ** 30):
            self.refused(BadSize, pieces.source, wrong)
        for wrong in NO_INTEGERS + (-1, 5, 10 ** 30):
            self.refused(BadSize, pieces.needed, 0, wrong)
            self.refused(BadSize, pieces.needed, wrong, 4)
        self.refused(BadSize, pieces.needed, 3, 2)
        for wrong in NO_SERIES + ((0, 1), (0, 1, 0, 1), (0, 1, 2), (0, 1, True)):
            self.refused(BadWindow, pieces.told, wrong)
        for wrong in NO_SERIES:
            self.refused(BadSize, pieces.spoilt, wrong)
        for call in (empty.bounds, empty.letters, empty.late, empty.source):
            self.refused(BadSize, call, 0)
        self.same((len(empty), empty.told((0, 1, 99)), empty.needed(0, 0), empty.spoilt(())), (0, (), [], []))

    def test_lists_can_be_changed(self):
        rows, lost, window = ["0001", "11"], [1], [0, 1, 0]
        pieces = Pieces(FMT, rows)
        rows[0] = None
        rows.clear()
        pieces.told(window, lost=lost)
        pieces.spoilt(lost).clear()
        pieces.needed(0, 3).clear()
        pieces.late(0)[0].clear()
        self.same((len(pieces), lost, window), (2, [1], [0, 1, 0]))
        self.same((pieces.spoilt(lost), pieces.needed(0, 3), pieces.late(0)), ([2], [0, 1], ([0, 1, 2], 0)))
        self.same(len(slow_controls(FMT)), 1)
