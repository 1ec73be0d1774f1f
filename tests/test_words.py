"""Points 32, 34 and 35."""

import itertools
import random
from fractions import Fraction

from helpers import NO_INTEGERS, NO_SERIES, Case, slow_free_words
from leastreader.errors import BadBits, BadTable, TooFull
from leastreader.words import free_words, lengths_back, sums


def some_lengths(seed, count):
    dice = random.Random(seed)
    for _ in range(count):
        yield [dice.randint(1, dice.choice([3, 5, 10])) for _ in range(dice.randint(0, 12))]


class FreeWords(Case):
    def check(self, lengths):
        expected = slow_free_words(lengths)
        if isinstance(expected, int):
            error = self.refused(TooFull, free_words, lengths)
            self.same(error.at, expected)
        else:
            self.same(free_words(lengths), expected)
            self.same(free_words(tuple(lengths)), expected)
        return expected

    def test_point_32_all_short_sequences_of_lengths(self):
        for many in range(6):
            for lengths in itertools.product((1, 2, 3, 4), repeat=many):
                self.check(list(lengths))

    def test_point_32_longer_ones(self):
        for lengths in some_lengths(32, 300):
            self.check(lengths)

    def test_point_32_edges(self):
        self.same(free_words([]), [])
        self.same(free_words(()), [])
        self.same(free_words([1]), ["0"])
        self.same(free_words([10, 1]), ["1000000000", "0"])
        self.same(free_words([10] * 1024), [format(k, "010b") for k in range(1024)])
        self.same(self.refused(TooFull, free_words, [10] * 1025).at, 1024)
        self.same(self.refused(TooFull, free_words, [10, 1, 10, 1]).at, 0)
        self.same(self.refused(TooFull, free_words, [1, 1, 1]).at, 2)

    def test_point_34_numbers(self):
        for lengths in some_lengths(34, 300):
            order = sorted(range(len(lengths)), key=lambda k: (lengths[k], k))
            parts = [Fraction(1, 2 ** lengths[k]) for k in order]
            if sum(parts) > 1:
                over = [k for k in range(len(parts)) if sum(parts[:k + 1]) > 1]
                self.same(self.refused(TooFull, free_words, lengths).at, order[over[0]])
                continue
            words = free_words(lengths)
            for k, index in enumerate(order):
                number = sum(parts[:k], Fraction(0)) * 2 ** lengths[index]
                self.assertEqual(number, int(words[index], 2))
            self.assertEqual([words[k] for k in order], sorted(words))

    def test_wrong_lengths_come_first(self):
        for wrong in NO_SERIES + ([0], (1, 11), [1, 1, 1, -1]) + tuple([1, 1, 1, value] for value in NO_INTEGERS):
            self.refused(BadTable, free_words, wrong)

    def test_arguments_and_returned_lists(self):
        lengths = [2, 1]
        free_words(lengths).append("1")
        self.same((lengths, free_words(lengths)), ([2, 1], ["10", "0"]))


class Back(Case):
    def test_point_35_there_and_back(self):
        for lengths in some_lengths(35, 300):
            words = slow_free_words(lengths)
            if isinstance(words, list):
                self.same(lengths_back(words), (lengths, None))
                self.same(lengths_back(tuple(words)), (lengths, None))

    def test_point_35_all_small_sequences(self):
        bits = ["0", "1", "00", "01", "10", "11", "000", "110", "111"]
        for many in range(5):
            for words in itertools.product(bits, repeat=many):
                self.same(lengths_back(words), self.slow(words))

    def slow(self, words):
        taken = []
        for index in sorted(range(len(words)), key=lambda k: (len(words[k]), k)):
            every = ["".join(word) for word in itertools.product("01", repeat=len(words[index]))]
            free = [word for word in every if not any(word.startswith(before) for before in taken)]
            if not free or words[index] != free[0]:
                return (None, index)
            taken.append(words[index])
        return ([len(word) for word in words], None)

    def test_point_35_edges(self):
        self.same(lengths_back([]), ([], None))
        self.same(lengths_back(()), ([], None))
        self.same(lengths_back(["0" * 10]), ([10], None))
        self.same(lengths_back(["1"]), (None, 0))
        self.same(lengths_back(["11", "0", "0"]), (None, 2))
        self.same(lengths_back(["11", "0", "10"]), (None, 0))

    def test_wrong_words(self):
        for wrong in NO_SERIES + ("0", [""], ["0", "0" * 11], ["0", "2"], ["0 "], [0], [None], [b"0"], [["0"]], ["0\n"]):
            self.refused(BadBits, lengths_back, wrong)
        self.refused(BadBits, lengths_back, ["1", ""])

    def test_arguments_and_returned_lists(self):
        words = ["10", "0"]
        lengths_back(words)[0].append(1)
        self.same((words, lengths_back(words)), (["10", "0"], ([2, 1], None)))


class Sums(Case):
    def test_point_34_sums(self):
        dice = random.Random(36)
        for _ in range(200):
            lengths = [dice.randint(1, 16) for _ in range(dice.randint(1, 30))]
            units, whole = sums(lengths)
            self.same(whole, 2 ** max(lengths))
            self.assertEqual(Fraction(units, whole), sum(Fraction(1, 2 ** length) for length in lengths))
            self.same(sums(tuple(lengths)), (units, whole))

    def test_edges(self):
        self.same(sums([]), (0, 1))
        self.same(sums(()), (0, 1))
        self.same(sums([1]), (1, 2))
        self.same(sums([16, 1]), (1 + 2 ** 15, 2 ** 16))
        self.same(sums([1, 1, 1]), (3, 2))

    def test_wrong_lengths(self):
        for wrong in NO_SERIES + ([0], (1, 17), [-1]) + tuple([1, value] for value in NO_INTEGERS):
            self.refused(BadTable, sums, wrong)
