"""Promise 10: only."""

import unittest
from itertools import combinations, permutations, product

from support import CHANGE, DO, LEVEL, LOOK, TIP, balanced, begin, last, only, run, sit, up

BOARDS = ((1, [60, 60]), (1, [1, 60]), (2, [1, 2, 3]), (2, [4, 4, 2, 2]), (3, [1, 2, 3, 4, 5]), (4, [3, 5, 7, 11, 13]))


class Only(unittest.TestCase):
    def test_none_in_one_way(self):
        for side, weights in BOARDS + ((1, [7]), (4, [60])):
            self.assertEqual(last(begin(side, weights), only()), [1], (side, weights))

    def test_one_in_no_way(self):
        for side, weights in BOARDS + ((1, [7]), (4, [60])):
            for child in range(len(weights)):
                self.assertEqual(last(begin(side, weights), only(child)), [0], (side, weights, child))

    def test_two(self):
        self.assertEqual(last(begin(2, [1, 60, 2]), only(0, 2)), [2])
        self.assertEqual(last(begin(2, [5, 60, 5]), only(0, 2)), [4])
        self.assertEqual(last(begin(2, [5, 60, 5]), only(0, 1)), [0])
        self.assertEqual(last(begin(4, [1, 1]), only(0, 1)), [8])

    def test_all_are_what_level_tells(self):
        for side, weights in BOARDS:
            level, told = run(begin(side, weights), LEVEL, only(*range(len(weights))))[1:]
            self.assertEqual(told, level[:1], (side, weights))

    def test_each_choice_in_any_order(self):
        for side, weights in BOARDS:
            for many in range(len(weights) + 1):
                for children in combinations(range(len(weights)), many):
                    expected = [len(balanced(side, [weights[child] for child in children]))]
                    orders = list(permutations(children))[:24]
                    told = run(begin(side, weights), *[only(*order) for order in orders])
                    self.assertEqual(told[1:], [expected] * len(orders), (side, weights, children))

    def test_one_that_is_not_there(self):
        for child in range(3, 10):
            for children in ([child], [0, child], [child, 0], [2, 1, 0, child], [child, child]):
                self.assertEqual(last(begin(2, [1, 2, 3]), only(*children)), [-1], children)

    def test_the_last_child_is_there(self):
        for children in range(1, 6):
            told = run(begin(4, [1] * children), only(children - 1), only(children))
            self.assertEqual(told[1:], [[0], [-1]], children)

    def test_one_that_is_named_twice(self):
        for children in ([0, 0], [1, 1], [0, 1, 0], [0, 1, 1], [2, 2, 1], [1, 2, 2, 0], [0, 0, 0]):
            self.assertEqual(last(begin(2, [1, 2, 3]), only(*children)), [-1], children)

    def test_eight_numbers(self):
        for children in (range(8), [0] * 8, [9] * 8, [0, 1, 2, 3, 4, 0, 1, 2], [4, 3, 2, 1, 0, 9, 8, 7]):
            self.assertEqual(last(begin(4, [1] * 5), only(*children)), [-1], children)

    def test_more_than_there_are_children_or_seats(self):
        self.assertEqual(last(begin(1, [1, 1]), only(0, 1, 1)), [-1])
        self.assertEqual(last(begin(1, [1]), only(0, 0)), [-1])

    def test_every_row_of_three(self):
        weights = [1, 2, 3]
        for children in product(range(5), repeat=3):
            fits = sorted(children) == [0, 1, 2]
            expected = [len(balanced(2, weights))] if fits else [-1]
            self.assertEqual(last(begin(2, weights), only(*children)), expected, children)

    def test_whoever_sits_now(self):
        asked = [only(), only(0), only(2, 0), only(0, 1, 2)]
        expected = run(begin(2, [1, 60, 2]), *asked)[1:]
        self.assertEqual(expected[:3], [[1], [0], [2]])
        for seating in ([sit(0, 0)], [sit(1, 2)], [sit(2, 3), sit(0, 1)], [sit(0, 0), sit(1, 1), sit(2, 2)],
                        [sit(0, 0), up(0)], [sit(2, 3), sit(0, 1), DO]):
            self.assertEqual(run(begin(2, [1, 60, 2]), *seating, *asked)[-4:], expected, seating)

    def test_it_changes_nothing(self):
        for asked in (only(), only(0), only(1, 0), only(2), only(1, 1), only(*range(8))):
            told = run(begin(2, [1, 2]), sit(0, 1), asked, LOOK, TIP, CHANGE, up(1), up(0))
            self.assertEqual(told[3:], [[2, 1, 2, 1, 0, 1], [1, 1], [-6], [-3], [1]], asked)

    def test_without_a_seesaw(self):
        for asked in (only(), only(0), only(9), only(0, 0), only(*range(8))):
            self.assertEqual(run(asked, begin(1, [5]), only()), [[-9], [0], [1]], asked)


if __name__ == "__main__":
    unittest.main()
