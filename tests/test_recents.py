"""Points 4, 9, 10, 11 and 14, as far as the module recents shows them."""

import itertools
import random

from helpers import AGAIN, COPIED, NO_INTEGERS, NO_SERIES, Case, slow_again, slow_copied
from leastreader.errors import BadRecents, BadRule, BadSize, BadToken
from leastreader.recents import after_again, after_copy, check_recents, fewest_moves, last_used, moved_order

NO_RECENTS = NO_SERIES + ((0,), (25,), [1, -1], (1, 1, 1, 1, 1), [99]) + tuple((1, wrong) for wrong in NO_INTEGERS)
NO_RULES = ("", "Front", "first", None, 0, True, ["front"], ("front",), b"front", "front ")


def small_recents():
    for many in range(5):
        yield from itertools.product((1, 2, 3), repeat=many)
    yield from [(24,), (24, 1, 24, 1), (1, 2, 3, 4), (4, 3, 2, 1)]


class Checked(Case):
    def test_point_4_recents(self):
        self.same(check_recents([], 1), ())
        self.same(check_recents([1, 1, 1, 1], 1), (1, 1, 1, 1))
        self.same(check_recents((24, 1), 24), (24, 1))
        for width in range(1, 25):
            self.same(check_recents([width], width), (width,))
            self.refused(BadRecents, check_recents, [width + 1], width)
        for wrong in NO_RECENTS:
            self.refused(BadRecents, check_recents, wrong, 24)

    def test_point_14_sizes_come_first(self):
        for width in (0, 25) + NO_INTEGERS:
            self.refused(BadSize, check_recents, (1,), width)
            self.refused(BadSize, check_recents, None, width)


class Moves(Case):
    def test_point_4_copies(self):
        for recents in small_recents():
            for distance, rule in itertools.product((1, 2, 3, 4, 24), COPIED):
                expected = slow_copied(recents, distance, rule)
                self.same(after_copy(recents, distance, rule), expected)
                self.same(after_copy(list(recents), distance, rule), expected)

    def test_point_4_agains(self):
        for recents in small_recents():
            for index, rule in itertools.product(range(len(recents)), AGAIN):
                expected = slow_again(recents, index, rule)
                self.same(after_again(recents, index, rule), expected)
                self.same(after_again(list(recents), index, rule), expected)

    def test_point_4_equal_recents_and_edges(self):
        self.same(after_copy((3, 3, 2), 3, "front"), (3, 3, 2))
        self.same(after_copy((2, 3, 3), 3, "front"), (3, 2, 3))
        self.same(after_copy((2, 3, 3), 1, "front"), (1, 2, 3))
        self.same(after_copy((2, 3, 3), 3, "push"), (3, 2, 3))
        self.same(after_again((2, 3, 3), 2, "push"), (3, 2, 3))
        self.same(after_again((2, 3, 3), 2, "front"), (3, 2, 3))
        self.same(after_again((2, 3, 1), 0, "swap"), (2, 3, 1))
        self.same(after_again((5,), 0, "push"), (5,))
        for rule in COPIED:
            self.same(after_copy((), 1, rule), ())
            self.same(after_copy([2], 7, rule), (2,) if rule == "keep" else (7,))

    def test_point_14_errors_in_their_order(self):
        for wrong in NO_RECENTS:
            self.refused(BadRecents, after_copy, wrong, 0, "no")
            self.refused(BadRecents, after_again, wrong, 9, "no")
        for rule in NO_RULES + ("swap",):
            self.refused(BadRule, after_copy, (1,), 0, rule)
            self.refused(BadRule, after_copy, (), 1, rule)
        for rule in NO_RULES:
            self.refused(BadRule, after_again, (1,), 9, rule)
            self.refused(BadRule, after_again, (), 0, rule)
        for distance in (0, 25, -1) + NO_INTEGERS:
            self.refused(BadToken, after_copy, (1, 2), distance, "keep")
            self.refused(BadToken, after_copy, (), distance, "front")
        for index in (2, -1, 99) + NO_INTEGERS:
            self.refused(BadToken, after_again, (1, 2), index, "keep")
        self.refused(BadToken, after_again, (), 0, "front")


class Orders(Case):
    def test_point_10_orders_say_where_recents_come_from(self):
        for many in range(5):
            for length in range(4):
                for indexes in itertools.product(range(many), repeat=length):
                    for rule in AGAIN:
                        order = moved_order(many, rule, indexes)
                        self.same(moved_order(many, rule, list(indexes)), order)
                        for recents in ((7, 5, 9, 2)[:many], (3, 3, 1, 3)[:many]):
                            moved = recents
                            for index in indexes:
                                moved = after_again(moved, index, rule)
                            self.same(moved, tuple(recents[k] for k in order))

    def test_point_10_two_orders_are_told_apart(self):
        for rule, many in itertools.product(AGAIN, range(1, 5)):
            ways = [w for length in range(4) for w in itertools.product(range(many), repeat=length)]
            orders = {moved_order(many, rule, way) for way in ways}
            for one, other in itertools.combinations(sorted(orders), 2):
                k = [a == b for a, b in zip(one, other)].index(False)
                recents = [2 if i == one[k] else 1 for i in range(many)]
                self.assertNotEqual([recents[i] for i in one], [recents[i] for i in other])

    def test_point_10_edges(self):
        self.same(moved_order(0, "keep", ()), ())
        self.same(moved_order(4, "swap", []), (0, 1, 2, 3))
        self.same(moved_order(3, "push", [2, 2]), (1, 2, 0))
        self.same(moved_order(4, "front", [3] * 300), (0, 1, 2, 3))
        indexes = [1, 0, 1]
        moved_order(2, "swap", indexes)
        self.same(indexes, [1, 0, 1])

    def test_errors_in_their_order(self):
        for many in (-1, 5) + NO_INTEGERS:
            self.refused(BadSize, moved_order, many, "no", None)
        for rule in NO_RULES:
            self.refused(BadRule, moved_order, 0, rule, None)
            self.refused(BadRule, moved_order, 2, rule, [0])
        for wrong in NO_SERIES + ((2,), [0, -1]) + tuple((0, value) for value in NO_INTEGERS):
            self.refused(BadToken, moved_order, 2, "keep", wrong)
        self.refused(BadToken, moved_order, 0, "front", [0])


class LastUsed(Case):
    def test_point_9_front_and_front(self):
        dice = random.Random(9)
        for _ in range(400):
            many = dice.randint(0, 4)
            start = tuple(dice.sample(range(1, 7), many))
            used = [dice.randint(1, 7) for _ in range(dice.randint(0, 9))]
            moved = start
            for distance in used:
                moved = after_copy(moved, distance, "front")
            self.same(last_used(start, used), moved)
            self.same(last_used(list(start), tuple(used)), moved)
            self.assertEqual(len(set(moved)), many)

    def test_point_9_agains_count_as_their_distances(self):
        start, used, moved = (5, 1, 3), [], (5, 1, 3)
        for index in (2, 0, 1, 2, 2, 1):
            used.append(moved[index])
            moved = after_again(moved, index, "front")
            self.same(last_used(start, used), moved)

    def test_errors_in_their_order(self):
        for wrong in NO_RECENTS + ((1, 1), [3, 2, 3]):
            self.refused(BadRecents, last_used, wrong, None)
        for wrong in NO_SERIES + ((0,), [1, 25]) + tuple((1, value) for value in NO_INTEGERS):
            self.refused(BadToken, last_used, (1, 2), wrong)
            self.refused(BadToken, last_used, (), wrong)

    def test_300_distances(self):
        self.same(last_used((24, 23, 22, 21), list(range(1, 21)) * 15), (20, 19, 18, 17))
        self.same(last_used((1, 2), []), (1, 2))


def fewest_by_search(before, rule):
    """For each order that agains lead to from the recents, the fewest of them."""
    found = {before: 0}
    front = [before]
    for now in front:
        for index in range(len(now)):
            behind = slow_again(now, index, rule)
            if behind not in found and len(set(behind)) == len(behind):
                found[behind] = found[now] + 1
                front.append(behind)
    return found


class FewestMoves(Case):
    def test_point_11_against_all_ways(self):
        for many in range(5):
            before = (5, 2, 9, 24)[:many]
            for rule in AGAIN:
                known = fewest_by_search(before, rule)
                for after in itertools.permutations(before):
                    moves = fewest_moves(before, after, rule)
                    if after not in known:
                        self.assertIsNone(moves)
                        continue
                    self.assertIs(type(moves), list)
                    self.assertEqual(len(moves), known[after])
                    now = before
                    for index in moves:
                        now = after_again(now, index, rule)
                    self.same(now, after)

    def test_point_11_numbers_and_shapes(self):
        before = (1, 2, 3, 4)
        for after in itertools.permutations(before):
            pairs = [(a, b) for a, b in itertools.combinations(after, 2) if a > b]
            swaps = fewest_moves(before, after, "swap")
            self.assertEqual(len(swaps), len(pairs))
            # The first one of after is brought to index 0 step by step, then the second one to index 1.
            now, expected = list(before), []
            for goal, distance in enumerate(after):
                at = now.index(distance)
                expected += list(range(at, goal, -1))
                now.insert(goal, now.pop(at))
            self.same(swaps, expected)
            self.assertEqual(fewest_moves(before, after, "keep"), [] if after == before else None)
        self.same(fewest_moves((1, 2, 3), (2, 3, 1), "push"), [2, 2])
        self.same(fewest_moves((1, 2, 3), (3, 1, 2), "push"), [2])
        self.assertIsNone(fewest_moves((1, 2, 3), (2, 1, 3), "push"))

    def test_point_11_lists_and_no_recents(self):
        for rule in AGAIN:
            self.same(fewest_moves((), [], rule), [])
            self.same(fewest_moves([7], (7,), rule), [])
        before, after = [1, 2, 3], [3, 2, 1]
        self.same(fewest_moves(before, after, "front"), [1, 2])
        self.same((before, after), ([1, 2, 3], [3, 2, 1]))

    def test_a_returned_list_can_be_changed(self):
        for rule in ("front", "swap", "push"):
            found = fewest_moves((1, 2), (2, 1), rule)
            expected = list(found)
            found.append(9)
            self.same(fewest_moves((1, 2), (2, 1), rule), expected)

    def test_errors_in_their_order(self):
        for wrong in NO_RECENTS + ((1, 1), [3, 2, 3]):
            self.refused(BadRecents, fewest_moves, wrong, (1,), "no")
            self.refused(BadRecents, fewest_moves, (1,), wrong, "no")
            self.refused(BadRecents, fewest_moves, wrong, wrong, "front")
        for before, after in (((1,), ()), ((1, 2), (1, 3)), ((1, 2), (1, 2, 3)), ((), (1,))):
            self.refused(BadRecents, fewest_moves, before, after, "no")
        for rule in NO_RULES:
            self.refused(BadRule, fewest_moves, (1, 2), (1, 2), rule)
            self.refused(BadRule, fewest_moves, (), (), rule)
