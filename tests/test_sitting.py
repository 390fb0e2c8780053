"""Promises 2, 3 and 4: sit, up and tip."""

import unittest
from itertools import permutations, product

from support import TIP, Model, begin, last, run, sit, tipping, up


class Sit(unittest.TestCase):
    def test_each_seat_of_the_longest_board(self):
        expected = [[1, 40], [1, 30], [1, 20], [1, 10], [2, 10], [2, 20], [2, 30], [2, 40]]
        self.assertEqual([last(begin(4, [10]), sit(0, seat)) for seat in range(8)], expected)

    def test_each_seat_of_the_shortest_board(self):
        self.assertEqual([last(begin(1, [7]), sit(0, seat)) for seat in range(2)], [[1, 7], [2, 7]])

    def test_the_answer_counts_all_that_sit(self):
        told = run(begin(3, [2, 3, 1]), sit(0, 0), sit(1, 4), sit(2, 5))
        self.assertEqual(told, [[0], [1, 6], [0, 0], [2, 3]])

    def test_lightest_and_heaviest(self):
        self.assertEqual(last(begin(4, [1, 60]), sit(1, 7), sit(0, 0)), [2, 236])

    def test_all_the_heaviest(self):
        told = run(begin(4, [60] * 5), *[sit(child, child) for child in range(5)])
        self.assertEqual(told[1:], [[1, 240], [1, 420], [1, 540], [1, 600], [1, 540]])

    def test_no_such_child(self):
        for child in (2, 3, 9):
            self.assertEqual(last(begin(2, [1, 2]), sit(child, 0)), [-2])

    def test_last_child_and_last_seat(self):
        self.assertEqual(last(begin(2, [1, 2]), sit(1, 3)), [2, 4])

    def test_no_such_seat(self):
        for seat in (4, 5, 20):
            self.assertEqual(last(begin(2, [1, 2]), sit(0, seat)), [-1])

    def test_sits_already(self):
        for seat in range(4):
            self.assertEqual(last(begin(2, [1, 2]), sit(0, 1), sit(0, seat)), [-3])

    def test_another_one_sits_there(self):
        self.assertEqual(last(begin(2, [1, 2]), sit(0, 1), sit(1, 1)), [-4])

    def test_which_refusal_counts(self):
        start = [begin(2, [1, 2]), sit(0, 0), sit(1, 3)]
        self.assertEqual(last(*start, sit(2, 4)), [-2])
        self.assertEqual(last(*start, sit(2, 0)), [-2])
        self.assertEqual(last(*start, sit(0, 4)), [-1])
        self.assertEqual(last(*start, sit(0, 3)), [-3])

    def test_nothing_has_changed_after_a_refusal(self):
        for refused in (sit(3, 2), sit(2, 4), sit(0, 1), sit(2, 0)):
            told = run(begin(2, [5, 7, 9]), sit(0, 0), sit(1, 3), refused, TIP, up(2), up(0), up(1), TIP)
            self.assertEqual(told[4:], [[2, 4], [-3], [0], [3], [0, 0]], refused)

    def test_a_seat_that_was_left_is_free(self):
        self.assertEqual(last(begin(1, [5, 6]), sit(0, 0), up(0), sit(1, 0)), [1, 6])


class Up(unittest.TestCase):
    def test_where_it_sat(self):
        for side in range(1, 5):
            for seat in range(2 * side):
                self.assertEqual(run(begin(side, [3]), sit(0, seat), up(0), TIP)[2:], [[seat], [0, 0]])

    def test_the_others_stay(self):
        told = run(begin(2, [5, 7, 9]), sit(0, 0), sit(1, 1), sit(2, 2), up(1), TIP, up(2), up(0))
        self.assertEqual(told[4:], [[1], [1, 1], [2], [0]])

    def test_it_can_sit_again_elsewhere(self):
        self.assertEqual(run(begin(2, [5]), sit(0, 0), up(0), sit(0, 2))[2:], [[0], [2, 5]])

    def test_no_such_child(self):
        for child in (2, 9):
            self.assertEqual(run(begin(2, [5, 7]), sit(1, 0), up(child), TIP)[2:], [[-2], [1, 14]])

    def test_it_does_not_sit(self):
        self.assertEqual(run(begin(2, [5, 7]), sit(1, 0), up(0), TIP)[2:], [[-3], [1, 14]])
        self.assertEqual(last(begin(2, [5]), sit(0, 0), up(0), up(0)), [-3])


class Tip(unittest.TestCase):
    def test_nobody_sits(self):
        self.assertEqual(last(begin(4, [60] * 5), TIP), [0, 0])

    def test_it_changes_nothing(self):
        self.assertEqual(run(begin(2, [5]), sit(0, 1), TIP, TIP, up(0))[2:], [[1, 5], [1, 5], [1]])

    def test_it_balances_with_some_of_them(self):
        self.assertEqual(last(begin(3, [2, 50, 3]), sit(0, 5), sit(2, 1), TIP), [0, 0])

    def test_every_sitting_of_three(self):
        for side in (2, 3, 4):
            weights = [4, 9, 25]
            for seats in permutations(range(2 * side), 3):
                told = last(begin(side, weights), *[sit(*pair) for pair in enumerate(seats)], TIP)
                self.assertEqual(told, tipping(side, weights, dict(enumerate(seats))), (side, seats))


class Together(unittest.TestCase):
    def test_every_line_of_four_calls_on_a_small_board(self):
        choices = [sit(child, seat) for child in range(3) for seat in range(3)]
        choices += [up(child) for child in range(3)] + [TIP]
        for calls in product(choices, repeat=4):
            model = Model(1, [3, 5])
            expected = [model.answer(call) for call in calls]
            self.assertEqual(run(begin(1, [3, 5]), *calls)[1:], expected, calls)


if __name__ == "__main__":
    unittest.main()
