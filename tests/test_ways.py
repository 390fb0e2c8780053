"""Promises 5 and 6: level and can."""

import unittest
from itertools import combinations_with_replacement, product

from support import LEVEL, TIP, balanced, begin, can, last, run, sit, up

BOARDS = (
    [(1, weights) for weights in product((1, 2, 60), repeat=2)]
    + [(2, weights) for weights in product((1, 2, 3), repeat=3)]
    + [(2, weights) for weights in combinations_with_replacement((1, 2, 5, 60), 4)]
    + [(3, weights) for weights in product((1, 2, 9), repeat=4)]
    + [(3, (1, 2, 3, 4, 5)), (3, (60, 60, 60, 60, 60)), (3, (60, 1, 1, 1, 1))]
    + [(4, (7,)), (4, (3, 4)), (4, (4, 3)), (4, (13, 11, 7)), (4, (60, 59, 58, 57))]
    + [(4, (3, 5, 7, 11, 13)), (4, (13, 11, 7, 5, 3)), (4, (1, 1, 1, 1, 1)), (4, (60, 1, 60, 1, 60))]
)


class Level(unittest.TestCase):
    def test_two_of_one_weight_on_the_shortest_board(self):
        self.assertEqual(last(begin(1, [5, 5]), LEVEL), [2, 0, 1])

    def test_one_twice_as_heavy(self):
        self.assertEqual(last(begin(2, [1, 2]), LEVEL), [2, 0, 2])
        self.assertEqual(last(begin(2, [2, 1]), LEVEL), [2, 1, 3])

    def test_the_first_puts_the_lower_seat_where_they_first_differ(self):
        self.assertEqual(last(begin(2, [1, 1, 1, 1]), LEVEL), [24, 0, 1, 2, 3])
        # (0, 3, 1, 2) and (0, 3, 2, 1) both balance: they first differ at child 2.
        self.assertEqual(last(begin(2, [2, 2, 3, 3]), LEVEL), [8, 0, 3, 1, 2])

    def test_no_way(self):
        for side in range(1, 5):
            self.assertEqual(last(begin(side, [7]), LEVEL), [0])
        self.assertEqual(last(begin(1, [59, 60]), LEVEL), [0])
        self.assertEqual(last(begin(4, [60, 1, 1, 1, 1]), LEVEL), [0])

    def test_against_every_sitting(self):
        for side, weights in BOARDS:
            ways = balanced(side, weights)
            expected = [len(ways)] + (list(ways[0]) if ways else [])
            self.assertEqual(last(begin(side, weights), LEVEL), expected, (side, weights))

    def test_whoever_sits_now(self):
        told = run(begin(2, [1, 2]), sit(0, 1), LEVEL, sit(1, 0), LEVEL, up(0), LEVEL, up(1), LEVEL)
        self.assertEqual([told[at] for at in (2, 4, 6, 8)], [[2, 0, 2]] * 4)

    def test_it_changes_nothing(self):
        told = run(begin(2, [1, 2]), sit(0, 1), LEVEL, TIP, up(1), up(0))
        self.assertEqual(told[3:], [[1, 1], [-3], [1]])


class Can(unittest.TestCase):
    def test_each_child_and_seat_of_a_small_board(self):
        told = [[last(begin(2, [1, 2]), can(child, seat)) for seat in range(4)] for child in range(2)]
        self.assertEqual(told, [[[1], [0], [0], [1]], [[0], [1], [1], [0]]])

    def test_against_every_sitting(self):
        for side, weights in BOARDS:
            ways = balanced(side, weights)
            pairs = list(product(range(len(weights)), range(2 * side)))
            expected = [[sum(way[child] == seat for way in ways)] for child, seat in pairs]
            told = run(begin(side, weights), *[can(*pair) for pair in pairs])
            self.assertEqual(told[1:], expected, (side, weights))

    def test_none_where_nothing_balances(self):
        told = run(begin(1, [59, 60]), can(0, 0), can(0, 1), can(1, 0), can(1, 1))
        self.assertEqual(told[1:], [[0]] * 4)

    def test_whoever_sits_now(self):
        start = [begin(2, [1, 2]), sit(0, 0), sit(1, 1)]
        self.assertEqual(last(*start, can(0, 0)), [1])
        self.assertEqual(last(*start, can(0, 3)), [1])
        self.assertEqual(last(*start, can(1, 0)), [0])

    def test_no_such_child(self):
        for child in (2, 3, 9):
            self.assertEqual(last(begin(2, [1, 2]), can(child, 0)), [-2])

    def test_no_such_seat(self):
        for seat in (4, 5, 20):
            self.assertEqual(last(begin(2, [1, 2]), can(1, seat)), [-1])

    def test_which_refusal_counts(self):
        self.assertEqual(last(begin(2, [1, 2]), can(2, 4)), [-2])

    def test_it_changes_nothing(self):
        for asked in (can(0, 0), can(1, 3), can(2, 0), can(0, 4)):
            told = run(begin(2, [1, 2]), sit(0, 1), asked, TIP, up(1), up(0))
            self.assertEqual(told[3:], [[1, 1], [-3], [1]], asked)


if __name__ == "__main__":
    unittest.main()
