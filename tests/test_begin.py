"""Promise 1: begin."""

import unittest

from support import LEVEL, TIP, begin, last, run, sit, up


class Begin(unittest.TestCase):
    def test_a_seesaw_stands_afterwards(self):
        self.assertEqual(run(begin(2, [3, 4]), TIP), [[0], [0, 0]])

    def test_every_number_of_seats(self):
        for side in range(10):
            expected = [0] if 1 <= side <= 4 else [-1]
            self.assertEqual(last(begin(side, [7])), expected, side)

    def test_every_number_of_children_on_every_board(self):
        for side in range(1, 5):
            for children in range(9):
                fits = 1 <= children <= 5 and children <= 2 * side
                expected = [0] if fits else [-1]
                self.assertEqual(last(begin(side, [7] * children)), expected, (side, children))

    def test_every_weight(self):
        for weight in range(100):
            expected = [0] if 1 <= weight <= 60 else [-1]
            self.assertEqual(last(begin(1, [weight])), expected, weight)

    def test_a_wrong_weight_at_each_place(self):
        for wrong in (0, 61, 99):
            for place in range(5):
                weights = [1, 60, 1, 60, 1]
                weights[place] = wrong
                self.assertEqual(last(begin(4, weights)), [-1], weights)

    def test_several_faults_are_one_refusal(self):
        self.assertEqual(last(begin(0, [])), [-1])
        self.assertEqual(last(begin(9, [0, 99, 61, 0, 0, 0, 0, 0])), [-1])

    def test_as_many_seats_as_said(self):
        for side in range(1, 5):
            for seat in range(21):
                refused = last(begin(side, [1]), sit(0, seat)) == [-1]
                self.assertEqual(refused, seat >= 2 * side, (side, seat))

    def test_as_many_children_as_said(self):
        for children in range(1, 6):
            for child in range(10):
                refused = last(begin(4, [1] * children), sit(child, 0)) == [-2]
                self.assertEqual(refused, child >= children, (children, child))

    def test_a_refused_one_makes_no_seesaw(self):
        self.assertEqual(run(begin(5, [1]), TIP), [[-1], [-9]])

    def test_a_refused_one_leaves_the_seesaw_that_stands(self):
        for refused in (begin(0, [1]), begin(5, [1]), begin(1, []), begin(1, [1, 1, 1]),
                        begin(4, [1] * 6), begin(2, [0]), begin(2, [61])):
            told = run(begin(2, [3, 6]), sit(0, 0), refused, TIP, LEVEL, sit(1, 3), up(0))
            self.assertEqual(told, [[0], [1, 6], [-1], [1, 6], [2, 0, 2], [2, 6], [0]], refused)

    def test_a_second_one_takes_its_place_with_nobody_on_it(self):
        told = run(begin(2, [3, 6]), sit(0, 0), begin(1, [5, 5]), TIP, up(0), sit(0, 3), LEVEL, sit(1, 0))
        self.assertEqual(told, [[0], [1, 6], [0], [0, 0], [-3], [-1], [2, 0, 1], [1, 5]])

    def test_the_same_one_again_sets_nobody_on_it(self):
        self.assertEqual(run(begin(1, [5]), sit(0, 0), begin(1, [5]), TIP)[2:], [[0], [0, 0]])


if __name__ == "__main__":
    unittest.main()
