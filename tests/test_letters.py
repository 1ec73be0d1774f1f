"""Points 1, 2 and 14, as far as the module letters shows them."""

from helpers import NO_INTEGERS, NO_SERIES, Case, all_rows
from leastreader.errors import BadRow, BadSize, BadWindow
from leastreader.letters import HOLE, at_place, check_row, check_window, moved_on


class Rows(Case):
    def test_point_2_rows_are_tuples_or_lists_of_letters_and_holes(self):
        self.same(HOLE, 99)
        self.same(check_row((), 2), ())
        self.same(check_row([], 16), ())
        self.same(check_row([0, 1, 99, 1], 2), (0, 1, 99, 1))
        self.same(check_row((15, 99, 0), 16), (15, 99, 0))

    def test_point_14_no_row(self):
        for row in NO_SERIES:
            self.refused(BadRow, check_row, row, 2)
        for n in range(2, 17):
            self.same(check_row([n - 1], n), (n - 1,))
            for entry in (n, -1, 98, 100, -99, 2 ** 70):
                self.refused(BadRow, check_row, (0, entry), n)
        for entry in NO_INTEGERS + (99.0,):
            self.refused(BadRow, check_row, [entry], 16)

    def test_point_14_sizes_come_first(self):
        for n in (1, 17, 0, -2, 10 ** 30) + NO_INTEGERS:
            self.refused(BadSize, check_row, (0,), n)
            self.refused(BadSize, check_row, None, n)

    def test_arguments_are_left_as_they_were(self):
        row = [0, 99, 1]
        found = check_row(row, 2)
        row.append(7)
        self.same(found, (0, 99, 1))

    def test_rows_of_2000(self):
        row = [0, 1, 99, 15] * 500
        self.same(check_row(row, 16), tuple(row))


class Windows(Case):
    def test_point_2_windows(self):
        for width in range(1, 25):
            for window in ([0] * width, (99,) * width, [1, 99] * 12):
                if len(window) == width:
                    self.same(check_window(window, 2, width), tuple(window))
                else:
                    self.refused(BadWindow, check_window, window, 2, width)

    def test_point_14_no_window(self):
        for window in NO_SERIES:
            self.refused(BadWindow, check_window, window, 2, 2)
        for entry in (2, -1, 98, 100) + NO_INTEGERS:
            self.refused(BadWindow, check_window, (0, entry), 2, 2)
        self.refused(BadWindow, check_window, (), 2, 1)
        self.refused(BadWindow, check_window, (0,) * 25, 2, 24)

    def test_point_14_sizes_come_first(self):
        for size in (0, 25, -1, 10 ** 30) + NO_INTEGERS:
            self.refused(BadSize, check_window, (0,), 2, size)
            self.refused(BadSize, check_window, None, 2, size)
        for n in (1, 17) + NO_INTEGERS:
            self.refused(BadSize, check_window, (0,), n, 1)
            self.refused(BadSize, check_window, None, n, 0)
        self.refused(BadSize, check_window, (), 2, 0)

    def test_arguments_are_left_as_they_were(self):
        window = [0, 1]
        found = check_window(window, 2, 2)
        self.same(window, [0, 1])
        window[0] = 1
        self.same(found, (0, 1))


class Places(Case):
    def test_point_2_place_1_is_the_newest(self):
        self.same([at_place((4, 5, 6), p) for p in (1, 2, 3)], [6, 5, 4])
        self.same(at_place([None, "a"], 2), None)
        long = list(range(2000))
        self.same([at_place(long, 1), at_place(long, 2000)], [1999, 0])

    def test_no_place(self):
        for place in (0, 4, -1) + NO_INTEGERS:
            self.refused(BadSize, at_place, (4, 5, 6), place)
        self.refused(BadSize, at_place, (), 1)
        self.refused(BadSize, at_place, [], 0)

    def test_place_stands_in_front_of_a_slash(self):
        with self.assertRaises(TypeError):
            at_place((1,), place=1)
        with self.assertRaises(TypeError):
            moved_on((1,), row=(1,))

    def test_point_2_windows_move_on(self):
        for width in range(0, 5):
            for length in range(0, 7):
                for row in all_rows(2, length):
                    window = [chr(97 + k) for k in range(width)]
                    joined = window + list(row)
                    expected = tuple(joined[len(joined) - width:])
                    self.same(moved_on(window, row), expected)
                    self.same(moved_on(tuple(window), list(row)), expected)
        window, row = [1, 2], [3]
        moved_on(window, row)
        self.same((window, row), ([1, 2], [3]))
