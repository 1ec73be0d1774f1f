"""Points 65 to 68, 70 and 71."""

import inspect
import itertools
import random

from helpers import NO_INTEGERS, NO_SERIES, Case, slow_run, some_token
from leastreader.classes import Classes
from leastreader.controls import ENDED, Controls
from leastreader.errors import BadBits, BadDeed, BadRow, BadSize, BadState, BadToken, NoWord, TooLarge
from leastreader.formats import Format
from leastreader.placemaps import PlaceMap
from leastreader.streams import (
    bits_of, deeds_map, each_stream, first_refused, letters_bits, streams_of, tokens_of)
from slow import (
    COPIES, GAPS, LETTERS, STOPS, remade, slow_controls, slow_deeds, slow_map, slow_output, slow_resolved,
    slow_standings, slow_table, some_deeds, some_formats, some_state, written_tokens)
from test_controls import crowd, turning
from test_states import NO_FUTURES

NO_BITS = tuple(value for value in NO_SERIES if value != "01") + ("2", "0 1", "01\n", ["0"], ("0", "1"), b"0", True, 1)
NO_CONTROLS = NO_SERIES + NO_INTEGERS + ((0,), [0, ()], (0, []), (1, ()), (False, ()), (0, (1,)), ((0, ()), ""), "")
NO_STANDINGS = NO_SERIES + NO_INTEGERS + (
    (), ((0, ()),), ((0, ()), "", (0, 1, 0)), ((0, ()), "00"), ((0, ()), "2"), ((0, ()), None), ((0, ()), ["0"]),
    ([0, ()], ""), ((0, []), ""), ((1, ()), ""), ((False, ()), ""), (ENDED, "0"), ("", (0, ())), ((0, ()), b""))


def slow_first_word(fmt, j, token):
    words = [word for word, met in slow_table(fmt, j).items() if met == token] if j >= 0 else []
    return min(words, key=lambda word: (len(word), word), default=None)


class Written(Case):
    def test_point_66_first_words_of_tokens(self):
        dice, ended = random.Random(66), 0
        for fmt in some_formats(66, 150, most=20, n=(2, 3), width=(1, 5), many=(0, 4)):
            for control in slow_controls(fmt):
                tokens = written_tokens(dice, fmt, control, dice.randint(0, 8))
                j, words = control[0], []
                for token in tokens:
                    words.append(slow_first_word(fmt, j, token))
                    j = {"turn": token[-1], "stop": -1}.get(token[0], j)
                bits = bits_of(fmt, control, tokens)
                self.same(bits, "".join(words))
                self.same(bits_of(fmt, control, tuple(tokens)), bits)
                self.same(tokens_of(fmt, control, bits), (tokens, "", []))
                ended += j == -1
        self.assertGreater(ended, 30)

    def test_point_66_no_fewer_bits_are_read_as_these_tokens(self):
        for fmt in some_formats(661, 25, most=4, tables=(1, 2), pairs=2):
            for control in slow_controls(fmt):
                fewest = {}
                for many in range(7):
                    for bits in map("".join, itertools.product("01", repeat=many)):
                        tokens, rest, refused = tokens_of(fmt, control, bits)
                        if rest == "" and not refused:
                            fewest.setdefault(tuple(tokens), many)
                for tokens, many in fewest.items():
                    self.same(len(bits_of(fmt, control, tokens)), many)

    def test_point_67_what_written_tokens_leave(self):
        dice = random.Random(67)
        for fmt in some_formats(67, 100, most=20, many=(0, 4)):
            for control in slow_controls(fmt):
                tokens = written_tokens(dice, fmt, control, 6)
                window = some_state(dice, fmt)[2]
                answers, state = slow_deeds(fmt, (control, "", window), bits_of(fmt, control, tokens))
                output, left, recents = slow_run(tokens, window, control[1], fmt.copied, fmt.again_rule)
                self.same((tuple(slow_output(answers)), state[1], state[2]), (output, "", left))
                self.same(state[0] == ENDED, ("stop",) in tokens or control == ENDED)
                if state[0] != ENDED:
                    self.same(state[0][1], recents)
                # The bits of the tokens have the map of the tokens.
                made = PlaceMap.made(tokens, control[1], fmt.width, copied=fmt.copied, again=fmt.again_rule)
                self.assertTrue(deeds_map(fmt, (control, ""), bits_of(fmt, control, tokens)) == made)

    def test_errors_at_the_first_token_that_gives_a_reason(self):
        fmt = Format(2, 3, recents=(1,), tables=[turning(COPIES, 1), STOPS])
        good, start = ("letter", 1), (0, (1,))
        for tokens, error, at in (
                ([("copy", 3, 1)], NoWord, 0), ([good, ("copy", 1, 2)], NoWord, 1), ([good, ("copy", 4, 1)], BadToken, None),
                ([("copy", 3, 1), ("copy", 4, 1)], NoWord, 0), ([("copy", 4, 1), ("copy", 3, 1)], BadToken, None),
                ([good, good, ("stop",)], NoWord, 2), ([("turn", 1), ("stop",), good], NoWord, 2),
                ([("turn", 1), ("stop",), ("stop",)], NoWord, 2), ([("turn", 1), ("stop",), ("letter", 2)], BadToken, None),
                ([("turn", 1), ("stop",), ("turn", 1), None], NoWord, 2), ([("turn", 2)], NoWord, 0),
                ([("turn", 5)], NoWord, 0), ([("turn", 6)], BadToken, None), ([("turn", 0)], NoWord, 0),
                ([("again", 0, 0, 1)], NoWord, 0), ([("again", 1, 0, 1)], BadToken, None),
                ([["letter", 1]], BadToken, None), ([good, None], BadToken, None), ([("letter", True)], BadToken, None),
                ([("turn", 1), ("turn", 1)], NoWord, 1), (["letter"], BadToken, None)):
            for given in (tokens, tuple(tokens)):
                found = self.refused(error, bits_of, fmt, start, given)
                if at is not None:
                    self.same(found.at, at)
        self.same(bits_of(fmt, start, [("turn", 1), ("stop",)]), "011")
        self.same(bits_of(fmt, ENDED, []), "")
        self.same(self.refused(NoWord, bits_of, fmt, ENDED, [good]).at, 0)
        self.refused(BadToken, bits_of, fmt, ENDED, [("letter", 2)])
        for wrong in NO_SERIES:
            self.refused(BadToken, bits_of, fmt, start, wrong)
        tokens = [good, ("turn", 1)]
        bits_of(fmt, start, tokens)
        self.same(tokens, [good, ("turn", 1)])

    def test_random_tokens_with_and_without_words(self):
        dice, seen = random.Random(662), set()
        for fmt in some_formats(662, 200, most=20, many=(0, 4)):
            tokens = [some_token(dice, fmt.n, fmt.width, len(fmt.recents), 3) for _ in range(4)] + [("stop",)]
            j, words, expected = 0, "", None
            for at, token in enumerate(tokens):
                word = slow_first_word(fmt, j, token)
                if word is None:
                    expected = at
                    break
                words += word
                j = {"turn": token[-1], "stop": -1}.get(token[0], j)
            seen.add(expected)
            if expected is None:
                self.same(bits_of(fmt, (0, fmt.recents), tokens), words)
            else:
                self.same(self.refused(NoWord, bits_of, fmt, (0, fmt.recents), tokens).at, expected)
        self.assertGreater(len(seen), 3)

    def test_point_66_letters(self):
        dice = random.Random(663)
        for fmt in some_formats(664, 60, most=20, n=(2, 3, 4)):
            for control in slow_controls(fmt):
                row = [dice.randrange(fmt.n) for _ in range(dice.randint(0, 6))]
                if control == ENDED and row:
                    self.same(self.refused(NoWord, letters_bits, fmt, control, row).at, 0)
                    continue
                expected = "".join(slow_first_word(fmt, control[0], ("letter", letter)) for letter in row)
                self.same(letters_bits(fmt, control, row), expected)
                self.same(letters_bits(fmt, control, tuple(row)), expected)
        fmt = Format(2, 3, tables=[STOPS])
        for control in ((0, ()), ENDED):
            self.same(letters_bits(fmt, control, []), "")
            for wrong in NO_SERIES + ([2], [0, 99], (99,), [-1], [True], [None], [[0]], "0"):
                self.refused(BadRow, letters_bits, fmt, control, wrong)


class Reading(Case):
    def test_point_65_words_begun_words_and_refused_bits(self):
        dice, many_refused = random.Random(65), 0
        for fmt in some_formats(65, 150, most=20, many=(0, 4)):
            for control in slow_controls(fmt):
                bits = "".join(some_deeds(dice, 25, "01"))
                tokens, rest, refused = [], "", []
                state = (control, "", (0,) * fmt.width)
                for at, bit in enumerate(bits):
                    now, before = state[0], state[1]
                    answers, state = slow_deeds(fmt, state, bit)
                    if answers == [("refused",)]:
                        refused.append(at)
                    elif answers != [("taken",)]:
                        tokens.append(slow_table(fmt, now[0])[before + bit])
                self.same(tokens_of(fmt, control, bits), (tokens, state[1], refused))
                window = some_state(dice, fmt)[2]
                self.same(first_refused(fmt, (control, "", window), bits), refused[0] if refused else None)
                many_refused += len(refused)
        self.assertGreater(many_refused, 300)

    def test_point_65_the_first_refused_bit_ends_a_gap_or_is_given_at_ended(self):
        dice = random.Random(651)
        for fmt in some_formats(651, 100, most=20):
            for standing in slow_standings(fmt):
                state = standing + ((0,) * fmt.width,)
                bits = "".join(some_deeds(dice, 20, "01"))
                at = first_refused(fmt, state, bits)
                answers, _ = slow_deeds(fmt, state, bits)
                self.same(at, answers.index(("refused",)) if ("refused",) in answers else None)
                if at is not None:
                    control, begun, _ = slow_deeds(fmt, state, bits[:at])[1]
                    self.assertTrue(control == ENDED or begun + bits[at] in fmt.table(control[0]).gaps())

    def test_by_hand(self):
        fmt = Format(2, 3, recents=(3,), tables=[
            [(("letter", 0, 1), 2), (("again", 0, 1, 2, 0), 2), (("turn", 1), 2)], STOPS])
        tokens = [("letter", 1), ("again", 0, 1, 2), ("turn", 1), ("stop",)]
        self.same(tokens_of(fmt, (0, (3,)), "001" + "01" + "10" + "11"), (tokens, "", []))
        self.same(tokens_of(fmt, (0, (3,)), "1"), ([], "1", []))
        # 11 is a gap of table 0 and the stop of table 1.
        self.same(tokens_of(fmt, (0, (3,)), "1101"), ([("turn", 1)], "1", [1]))
        self.same(tokens_of(fmt, (0, (3,)), "11110" + "11" + "01"), ([("turn", 1), ("stop",)], "", [1, 2, 3, 7, 8]))
        self.same(tokens_of(fmt, ENDED, "011"), ([], "", [0, 1, 2]))
        self.same(tokens_of(fmt, ENDED, ""), ([], "", []))
        gaps = Format(2, 3, tables=[GAPS])
        # 101 is a gap and 11 another one; the bits begun stay.
        self.same(tokens_of(gaps, (0, ()), "1110100"), ([("letter", 1)], "0", [1, 2, 4]))
        self.same(first_refused(gaps, ((0, ()), "1", (0, 1, 0)), "01"), 1)
        self.same(first_refused(gaps, ((0, ()), "1", (0, 1, 0)), ""), None)

    def test_wrong_values(self):
        fmt = Format(2, 3, tables=[STOPS])
        for wrong in NO_BITS:
            self.refused(BadBits, tokens_of, fmt, (0, ()), wrong)
            self.refused(BadBits, first_refused, fmt, ((0, ()), "", (0, 1, 0)), wrong)
        for wrong in NO_CONTROLS:
            self.refused(BadState, tokens_of, fmt, wrong, "2")
            self.refused(BadState, bits_of, fmt, wrong, None)
            self.refused(BadState, letters_bits, fmt, wrong, None)
        for wrong in NO_STANDINGS:
            self.refused(BadState, deeds_map, fmt, wrong, "2")
            self.refused(BadState, streams_of, fmt, wrong, -1)
            self.refused(BadState, list, each_stream(fmt, wrong, -1))
        for wrong in NO_STANDINGS[:-1] + (((0, ()), "", (0, 1)), ((0, ()), "00", (0, 1, 0)), ((0, ()), "", (0, 1, 2))):
            if wrong != ((0, ()), "", (0, 1, 0)):
                self.refused(BadState, first_refused, fmt, wrong, "2")

    def test_too_large_ahead_of_all_other_errors(self):
        fmt = crowd(last=[(("stop",), 4)])
        for call in (bits_of, tokens_of, letters_bits, first_refused, deeds_map, streams_of):
            self.same(self.refused(TooLarge, call, fmt, None, None).limit, 150)
        self.same(self.refused(TooLarge, list, each_stream(fmt, None, None)).limit, 150)


class Maps(Case):
    def test_point_68_maps_of_futures(self):
        dice, lost = random.Random(68), 0
        for fmt in some_formats(68, 120, most=20, n=(2, 3), width=(1, 5), many=(0, 4)):
            for standing in slow_standings(fmt)[:12]:
                deeds = some_deeds(dice, 25)
                for given in (deeds, tuple(deeds)):
                    found = deeds_map(fmt, standing, given)
                    self.assertIs(type(found), PlaceMap)
                    self.same(found.width, fmt.width)
                    self.same(list(found), slow_map(fmt, standing, deeds))
                self.same(list(deeds_map(fmt, list(standing), deeds)), list(found))
                lost += 99 in list(found)
                # Filled by a window it is the output, a hole being counted for each loss.
                for _ in range(3):
                    window = some_state(dice, fmt)[2]
                    answers, _ = slow_deeds(fmt, standing + (window,), deeds)
                    self.same(found.filled(window), tuple(slow_output(answers)))
        self.assertGreater(lost, 100)

    def test_point_68_equal_outputs_exactly_with_equal_maps(self):
        dice, equal = random.Random(681), 0
        for fmt in some_formats(681, 60, most=8, width=(1, 3), tables=(1, 2)):
            windows = list(itertools.product(range(2), repeat=fmt.width))
            for standing in slow_standings(fmt)[:6]:
                futures = [some_deeds(dice, dice.randint(0, 6), "01") for _ in range(4)]
                for one, other in itertools.combinations(futures, 2):
                    same = deeds_map(fmt, standing, one) == deeds_map(fmt, standing, other)
                    outputs = [[slow_output(slow_deeds(fmt, standing + (window,), deeds)[0]) for window in windows]
                               for deeds in (one, other)]
                    self.assertEqual(same, outputs[0] == outputs[1])
                    equal += same
        self.assertGreater(equal, 50)

    def test_point_68_what_is_the_same_for_all_windows(self):
        dice = random.Random(682)
        for fmt in some_formats(682, 40, most=8):
            for standing in slow_standings(fmt)[:6]:
                deeds = some_deeds(dice, 20)
                found = []
                for _ in range(4):
                    answers, state = slow_deeds(fmt, standing + some_state(dice, fmt)[2:], deeds)
                    found.append(([(answer[0], len(answer[-1])) for answer in answers if answer[0] == "told"], state[:2]))
                self.assertTrue(all(one == found[0] for one in found))

    def test_empty_futures_and_wrong_ones(self):
        fmt = Format(2, 3, tables=[STOPS])
        for empty in ("", [], ()):
            self.assertTrue(deeds_map(fmt, ((0, ()), "1"), empty) == PlaceMap((), 3))
        self.assertTrue(deeds_map(fmt, (ENDED, ""), "0011") == PlaceMap((), 3))
        for wrong in NO_FUTURES:
            self.refused(BadDeed, deeds_map, fmt, ((0, ()), ""), wrong)


class Further(Case):
    def test_point_70_further_tables(self):
        for fmt in some_formats(70, 60, most=20, tables=(1, 3)):
            tables = [fmt.table(j).pairs() for j in range(len(fmt))]
            more = remade(fmt, tables=tables + [STOPS if fmt.width > 1 else LETTERS])
            self.same(list(Controls(more)), list(Controls(fmt)))
            self.same([Controls(more).way(k) for k in range(len(Controls(fmt)))], list(slow_controls(fmt).values()))
            classes = Classes(Controls(fmt), Controls(more))
            self.same(classes.walk(0, 0, b_second=True), None)


class Counted(Case):
    def slow_streams(self, fmt, standing, many):
        found = []
        for bits in map("".join, itertools.product("01", repeat=many)):
            answers, _ = slow_deeds(fmt, standing + ((0,) * fmt.width,), bits)
            if ("refused",) not in answers:
                found.append(bits)
        return found

    def test_point_71_counts_and_streams_in_order(self):
        fewer = 0
        for fmt in some_formats(71, 60, most=8):
            for standing in slow_standings(fmt)[:10]:
                for many in range(8):
                    expected = self.slow_streams(fmt, standing, many)
                    self.same(streams_of(fmt, standing, many), len(expected))
                    self.same(list(each_stream(fmt, list(standing), many)), expected)
                    fewer += len(expected) < 2 ** many
        self.assertGreater(fewer, 500)

    def test_point_71_all_bits_are_streams(self):
        full = 0
        for fmt in some_formats(711, 150, most=12):
            controls = slow_controls(fmt)
            no_gaps = ENDED not in controls and all(fmt.table(control[0]).full for control in controls)
            counts = [streams_of(fmt, standing, many) == 2 ** many for standing in slow_standings(fmt) for many in (1, 9)]
            self.assertEqual(no_gaps, all(counts))
            full += no_gaps
        self.assertGreater(full, 20)

    def test_0_and_40_bits(self):
        fmt = Format(2, 3, tables=[STOPS])
        self.same([streams_of(fmt, ((0, ()), ""), k) for k in range(5)], [1, 2, 4, 6, 12])
        self.same([streams_of(fmt, (ENDED, ""), k) for k in (0, 1, 40)], [1, 0, 0])
        self.same((list(each_stream(fmt, (ENDED, ""), 0)), list(each_stream(fmt, (ENDED, ""), 40))), ([""], []))
        self.same(streams_of(fmt, ((0, ()), ""), 40), 4 * 3 ** 19)
        self.same(streams_of(Format(2, 3, tables=[LETTERS]), ((0, ()), ""), 40), 2 ** 40)
        self.same(streams_of(Format(2, 3, tables=[GAPS]), ((0, ()), ""), 40), self.gaps_count(40))
        for wrong in (-1, 41, 10 ** 30) + NO_INTEGERS:
            self.refused(BadSize, streams_of, fmt, ((0, ()), ""), wrong)
            self.refused(BadSize, list, each_stream(fmt, ((0, ()), ""), wrong))

    def gaps_count(self, many):
        """The streams of a table with one word of 2 bits and three of 3 bits, cut anywhere: 0 1 10 010 011 begun."""
        found = [1]
        for k in range(1, many + 1):
            # A whole word and then a stream, or a begun word alone.
            whole = (found[k - 2] if k >= 2 else 0) + 3 * (found[k - 3] if k >= 3 else 0)
            found.append(whole + {1: 2, 2: 2}.get(k, 0))
        return found[many]

    def test_streams_are_yielded_one_by_one(self):
        fmt = Format(2, 3, tables=[LETTERS])
        self.assertTrue(inspect.isgeneratorfunction(each_stream))
        found = each_stream(fmt, ((0, ()), ""), 40)
        self.same([next(found), next(found), next(found)], ["0" * 40, "0" * 39 + "1", "0" * 38 + "10"])
        # Errors are raised when it is iterated over.
        wrong = each_stream(fmt, None, 41)
        self.refused(BadState, next, wrong)
