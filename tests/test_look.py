"""Promise 11: look."""

import unittest
from itertools import permutations

from support import LOOK, TIP, begin, last, run, sit, up


class Look(unittest.TestCase):
    def test_nobody_sits(self):
        for side in range(1, 5):
            for weights in ([1], [60], [60, 1]):
                self.assertEqual(last(begin(side, weights), LOOK), [side, *weights, 0], (side, weights))
        self.assertEqual(last(begin(4, [1, 60, 30, 2, 59]), LOOK), [4, 1, 60, 30, 2, 59, 0])

    def test_one_sits(self):
        self.assertEqual(last(begin(1, [7]), sit(0, 1), LOOK), [1, 7, 1, 0, 1])
        self.assertEqual(last(begin(1, [7]), sit(0, 0), LOOK), [1, 7, 1, 0, 0])
        self.assertEqual(last(begin(3, [7, 8, 9]), sit(1, 5), LOOK), [3, 7, 8, 9, 1, 1, 5])

    def test_some_sit(self):
        told = last(begin(4, [5, 4, 3, 2, 1]), sit(4, 0), sit(0, 7), sit(3, 2), LOOK)
        self.assertEqual(told, [4, 5, 4, 3, 2, 1, 3, 0, 7, 3, 2, 4, 0])

    def test_all_sit(self):
        told = last(begin(4, [5, 4, 3, 2, 1]), *[sit(child, 7 - child) for child in range(5)], LOOK)
        self.assertEqual(told, [4, 5, 4, 3, 2, 1, 5, 0, 7, 1, 6, 2, 5, 3, 4, 4, 3])

    def test_the_numbers_rise_in_whatever_order_they_sat_down(self):
        for order in permutations(range(3)):
            told = last(begin(2, [9, 1, 4]), *[sit(child, 3 - child) for child in order], LOOK)
            self.assertEqual(told, [2, 9, 1, 4, 3, 0, 3, 1, 2, 2, 1], order)

    def test_who_got_up_is_not_told(self):
        told = run(begin(2, [9, 1]), sit(0, 0), sit(1, 3), up(0), LOOK, sit(0, 1), LOOK, up(0), up(1), LOOK)
        self.assertEqual([told[at] for at in (4, 6, 9)], [[2, 9, 1, 1, 1, 3], [2, 9, 1, 2, 0, 1, 1, 3], [2, 9, 1, 0]])

    def test_a_refused_call_is_not_seen(self):
        for refused in (sit(0, 2), sit(1, 0), sit(2, 1), sit(1, 4), up(1), up(2), begin(0, [1]), begin(2, [61])):
            self.assertEqual(last(begin(2, [9, 1]), sit(0, 0), refused, LOOK), [2, 9, 1, 1, 0, 0], refused)

    def test_a_second_begin(self):
        self.assertEqual(last(begin(2, [9, 1]), sit(0, 0), begin(3, [4]), LOOK), [3, 4, 0])

    def test_it_changes_nothing(self):
        told = run(begin(2, [9, 1]), sit(1, 3), LOOK, LOOK, TIP, up(0), up(1))
        self.assertEqual(told[2:], [[2, 9, 1, 1, 1, 3], [2, 9, 1, 1, 1, 3], [2, 2], [-3], [3]])

    def test_without_a_seesaw(self):
        self.assertEqual(run(LOOK, begin(5, [1]), LOOK, begin(1, [1]), LOOK), [[-9], [-1], [-9], [0], [1, 1, 0]])


if __name__ == "__main__":
    unittest.main()
