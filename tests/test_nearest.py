"""Promise 7: nearest."""

import unittest
from itertools import combinations_with_replacement, product

from support import DO, LEVEL, LOOK, NEAREST, TIP, begin, last, nearest, run, sit, up

BOARDS = (
    [(side, (weight,)) for side in range(1, 5) for weight in (1, 7, 60)]
    + [(1, weights) for weights in product((1, 2, 59, 60), repeat=2)]
    + [(2, weights) for weights in product((1, 2, 5), repeat=3)]
    + [(2, weights) for weights in combinations_with_replacement((1, 3, 7, 60), 4)]
    + [(3, weights) for weights in product((1, 4, 60), repeat=4)]
    + [(3, (1, 2, 3, 4, 5)), (3, (60, 60, 60, 60, 60)), (3, (60, 1, 1, 1, 1))]
    + [(4, (3, 5)), (4, (60, 1, 1)), (4, (3, 5, 7, 11, 13)), (4, (1, 1, 1, 1, 1)), (4, (60, 1, 1, 1, 1))]
)


def seated_as(side, weights, seats):
    return [begin(side, weights)] + [sit(child, seat) for child, seat in enumerate(seats)]


class Nearest(unittest.TestCase):
    def test_one_child_sits_beside_the_middle(self):
        for side in range(1, 5):
            for weight in (1, 60):
                self.assertEqual(last(begin(side, [weight]), NEAREST), [weight, 2, side - 1], (side, weight))

    def test_where_it_balances(self):
        self.assertEqual(last(begin(1, [5, 5]), NEAREST), [0, 2, 0, 1])
        self.assertEqual(last(begin(2, [1, 2]), NEAREST), [0, 2, 0, 2])
        self.assertEqual(last(begin(2, [1, 1, 1, 1]), NEAREST), [0, 24, 0, 1, 2, 3])

    def test_where_it_balances_it_tells_what_level_tells(self):
        balancing = 0
        for side, weights in BOARDS:
            level, told = run(begin(side, weights), LEVEL, NEAREST)[1:]
            self.assertEqual(told[0] == 0, level[0] > 0, (side, weights))
            if level[0] > 0:
                self.assertEqual(told[1:], level, (side, weights))
                balancing += 1
        self.assertTrue(0 < balancing < len(BOARDS))

    def test_the_first_tips_to_the_left(self):
        # (0, 1) tips by 1 to the left, (1, 0) by 1 to the right.
        self.assertEqual(last(begin(1, [60, 59]), NEAREST), [1, 2, 0, 1])
        self.assertEqual(last(*seated_as(1, [60, 59], [0, 1]), TIP), [1, 1])

    def test_the_first_tips_to_the_right(self):
        self.assertEqual(last(begin(1, [59, 60]), NEAREST), [1, 2, 0, 1])
        self.assertEqual(last(*seated_as(1, [59, 60], [0, 1]), TIP), [2, 1])

    def test_both_sides_are_counted(self):
        # In 6 ways by 1 to the left, with seat 2 left free, and in 6 by 1 to the right, with seat 1.
        self.assertEqual(last(begin(2, [1, 1, 1]), NEAREST), [1, 12, 0, 1, 3])
        # Seen from behind, a sitting is another one that tips by as much.
        for side, weights in BOARDS:
            self.assertEqual(last(begin(side, weights), NEAREST)[1] % 2, 0, (side, weights))

    def test_many_ways_that_do_not_balance(self):
        # The heavy one sits beside the middle, the light ones on the other side, as far out as they can.
        self.assertEqual(last(begin(2, [60, 1]), NEAREST), [58, 2, 1, 3])
        self.assertEqual(last(begin(4, [60, 1, 1, 1, 1]), NEAREST), [50, 48, 3, 4, 5, 6, 7])

    def test_lightest_and_heaviest(self):
        self.assertEqual(last(begin(1, [1, 60]), NEAREST), [59, 2, 0, 1])
        self.assertEqual(last(begin(1, [60, 1]), NEAREST), [59, 2, 0, 1])
        self.assertEqual(last(begin(1, [60, 60]), NEAREST), [0, 2, 0, 1])

    def test_it_tips_by_as_much_as_it_tells(self):
        for side, weights in BOARDS:
            told = last(begin(side, weights), NEAREST)
            self.assertEqual(last(*seated_as(side, weights, told[2:]), TIP)[1], told[0], (side, weights))

    def test_against_every_sitting(self):
        for side, weights in BOARDS:
            self.assertEqual(last(begin(side, weights), NEAREST), nearest(side, weights), (side, weights))

    def test_whoever_sits_now(self):
        told = run(begin(2, [1, 5]), sit(0, 1), NEAREST, sit(1, 0), NEAREST, up(0), NEAREST, up(1), NEAREST)
        self.assertEqual([told[at] for at in (2, 4, 6, 8)], [[3, 2, 0, 2]] * 4)
        told = run(begin(2, [1, 2]), sit(0, 1), sit(1, 3), DO, NEAREST)
        self.assertEqual(told[3:], [[2], [0, 2, 0, 2]])

    def test_it_changes_nothing(self):
        told = run(begin(2, [1, 5]), sit(0, 1), NEAREST, LOOK, TIP, up(1), up(0))
        self.assertEqual(told[3:], [[2, 1, 5, 1, 0, 1], [1, 1], [-3], [1]])

    def test_without_a_seesaw(self):
        self.assertEqual(run(NEAREST, begin(1, [5]), NEAREST), [[-9], [0], [5, 2, 0]])


if __name__ == "__main__":
    unittest.main()
