"""Promises 8 and 9: change and do."""

import unittest
from itertools import combinations, permutations

from support import CHANGE, DO, LEVEL, LOOK, NEAREST, TIP, begin, can, changed, last, only, run, sit, up

SMALL = [(1, (5, 5)), (1, (5, 6)), (2, (1, 2, 3)), (2, (2, 2, 2)), (2, (1, 2, 60)), (2, (1, 1, 2, 3)), (3, (1, 2, 3))]


def seated(side, weights, seat_of):
    return [begin(side, weights)] + [sit(child, seat) for child, seat in seat_of.items()]


def every_seating(side, weights):
    """Nobody, some and all of the children, on any seats."""
    for many in range(len(weights) + 1):
        for children in combinations(range(len(weights)), many):
            for seats in permutations(range(2 * side), many):
                yield dict(zip(children, seats))


def large_seatings():
    """Some and all of five children on the longest board, a few of the many."""
    for weights in ((3, 5, 7, 11, 13), (1, 1, 1, 1, 1), (60, 1, 60, 1, 60), (60, 1, 1, 1, 1), (2, 4, 6, 8, 10)):
        for step in (1, 3, 5, 7):
            for start in range(0, 8, 3):
                seats = [(start + step * child) % 8 for child in range(5)]
                yield weights, dict(enumerate(seats))
                yield weights, {child: seats[child] for child in (4, 1, 2)}


class Change(unittest.TestCase):
    def test_nobody_sits(self):
        for side, weights in ((1, [7]), (1, [59, 60]), (4, [60] * 5)):
            self.assertEqual(last(begin(side, weights), CHANGE), [0], (side, weights))
        self.assertEqual(last(begin(2, [5, 5]), sit(0, 1), up(0), CHANGE), [0])

    def test_one_sits(self):
        for side in range(1, 5):
            for seat in range(2 * side):
                self.assertEqual(last(begin(side, [1, 60]), sit(0, seat), CHANGE), [-6], (side, seat))
                self.assertEqual(last(begin(side, [1, 60]), sit(1, seat), CHANGE), [-6], (side, seat))

    def test_it_balances_already(self):
        self.assertEqual(last(begin(1, [5, 5]), sit(0, 1), sit(1, 0), CHANGE), [0, 1, 0])
        # The sitting (0, 3) is ahead of it, but changes two.
        self.assertEqual(last(begin(2, [5, 5]), sit(0, 2), sit(1, 1), CHANGE), [0, 2, 1])
        self.assertEqual(last(begin(2, [1, 1, 1, 1]), *[sit(at, 3 - at) for at in range(4)], CHANGE), [0, 3, 2, 1, 0])

    def test_one_changes(self):
        # Of (0, 2) and (3, 1), all that balance, the one changes child 1 and the other both.
        self.assertEqual(last(begin(2, [1, 2]), sit(0, 0), sit(1, 3), CHANGE), [1, 0, 2])
        # And here the other way round.
        self.assertEqual(last(begin(2, [1, 2]), sit(0, 3), sit(1, 0), CHANGE), [1, 3, 1])

    def test_fewer_changes_count_more_than_being_the_first(self):
        self.assertEqual(last(begin(2, [5, 5]), sit(0, 3), sit(1, 2), CHANGE), [1, 1, 2])
        self.assertEqual(last(begin(2, [1, 2]), sit(0, 2), sit(1, 1), CHANGE), [1, 3, 1])

    def test_of_as_good_sittings_the_first(self):
        # (0, 3) and (2, 1) both change one.
        self.assertEqual(last(begin(2, [5, 5]), sit(0, 0), sit(1, 1), CHANGE), [1, 0, 3])
        # (0, 2) and (3, 1) both change two.
        self.assertEqual(last(begin(2, [1, 2]), sit(0, 1), sit(1, 0), CHANGE), [2, 0, 2])

    def test_two_may_take_each_others_seats(self):
        # With four on four seats every change is among themselves.
        self.assertEqual(last(begin(2, [1, 2, 1, 2]), *[sit(at, at) for at in range(4)], CHANGE), [2, 0, 1, 3, 2])

    def test_only_those_that_sit_are_told(self):
        self.assertEqual(last(begin(2, [60, 1, 59, 2]), sit(1, 1), sit(3, 0), CHANGE), [2, 0, 2])

    def test_the_seats_stand_in_the_order_of_the_childrens_numbers(self):
        # Child 2 sat down first; child 0 is told first.
        self.assertEqual(last(begin(2, [1, 60, 2]), sit(2, 2), sit(0, 1), CHANGE), [1, 0, 2])

    def test_they_cannot_balance(self):
        self.assertEqual(last(begin(1, [59, 60]), sit(0, 0), sit(1, 1), CHANGE), [-6])
        self.assertEqual(last(begin(4, [60, 1, 1, 1, 1]), *[sit(at, at) for at in range(5)], CHANGE), [-6])

    def test_those_that_do_not_sit_do_not_count(self):
        # All three can balance, but these two can't; and the other way round.
        told = run(begin(2, [1, 1, 3]), LEVEL, sit(0, 0), sit(2, 1), CHANGE)
        self.assertEqual([told[1], told[-1]], [[4, 0, 1, 2], [-6]])
        told = run(begin(1, [5, 5]), sit(0, 0), CHANGE, sit(1, 1), CHANGE, up(0), CHANGE, up(1), CHANGE)
        self.assertEqual([told[at] for at in (2, 4, 6, 8)], [[-6], [0, 0, 1], [-6], [0]])

    def test_every_seating_of_small_boards(self):
        for side, weights in SMALL:
            for seat_of in every_seating(side, weights):
                told = last(*seated(side, weights, seat_of), CHANGE)
                self.assertEqual(told, changed(side, weights, seat_of), (side, weights, seat_of))

    def test_seatings_of_the_longest_board(self):
        for weights, seat_of in large_seatings():
            told = last(*seated(4, weights, seat_of), CHANGE)
            self.assertEqual(told, changed(4, weights, seat_of), (weights, seat_of))

    def test_it_changes_nothing(self):
        told = run(begin(2, [1, 2, 9]), sit(0, 0), sit(1, 3), CHANGE, LOOK, TIP, CHANGE, up(2), up(1), up(0))
        self.assertEqual(told[3:], [[1, 0, 2], [2, 1, 2, 9, 2, 0, 0, 1, 3], [2, 2], [1, 0, 2], [-3], [3], [0]])

    def test_nothing_has_changed_after_a_refusal(self):
        told = run(begin(1, [59, 60]), sit(1, 0), CHANGE, LOOK, CHANGE, TIP, sit(0, 0), up(1))
        self.assertEqual(told[2:], [[-6], [1, 59, 60, 1, 1, 0], [-6], [1, 60], [-4], [0]])

    def test_without_a_seesaw(self):
        self.assertEqual(run(CHANGE, begin(1, [5]), CHANGE), [[-9], [0], [0]])


class Do(unittest.TestCase):
    def test_nobody_sits(self):
        self.assertEqual(run(begin(1, [7]), DO, LOOK), [[0], [0], [1, 7, 0]])
        self.assertEqual(run(begin(4, [60] * 5), DO, LOOK)[1:], [[0], [4, 60, 60, 60, 60, 60, 0]])

    def test_one_sits(self):
        for side in range(1, 5):
            for seat in range(2 * side):
                told = run(begin(side, [60]), sit(0, seat), DO, LOOK)
                self.assertEqual(told[2:], [[-6], [side, 60, 1, 0, seat]], (side, seat))

    def test_it_balances_already(self):
        told = run(begin(2, [5, 5]), sit(0, 2), sit(1, 1), DO, LOOK)
        self.assertEqual(told[3:], [[0], [2, 5, 5, 2, 0, 2, 1, 1]])

    def test_they_sit_as_change_tells(self):
        told = run(begin(2, [1, 2]), sit(0, 0), sit(1, 3), CHANGE, DO, LOOK, TIP)
        self.assertEqual(told[3:], [[1, 0, 2], [1], [2, 1, 2, 2, 0, 0, 1, 2], [0, 0]])

    def test_of_as_good_sittings_the_first(self):
        told = run(begin(2, [5, 5]), sit(0, 0), sit(1, 1), DO, LOOK)
        self.assertEqual(told[3:], [[1], [2, 5, 5, 2, 0, 0, 1, 3]])

    def test_some_sit(self):
        told = run(begin(2, [1, 60, 2]), sit(2, 2), sit(0, 1), DO, LOOK)
        self.assertEqual(told[3:], [[1], [2, 1, 60, 2, 2, 0, 0, 2, 2]])

    def test_they_cannot_balance_and_nothing_changes(self):
        told = run(begin(2, [5, 60, 1]), sit(2, 3), sit(1, 0), DO, LOOK, TIP, DO, up(0), up(1), up(2))
        self.assertEqual(told[3:], [[-6], [2, 5, 60, 1, 2, 1, 0, 2, 3], [1, 118], [-6], [-3], [0], [3]])

    def test_the_others_answer_by_the_seats_that_it_gave(self):
        start = [begin(2, [1, 2, 9]), sit(0, 0), sit(1, 3), DO]
        self.assertEqual(last(*start, TIP), [0, 0])
        self.assertEqual(last(*start, up(0)), [0])
        self.assertEqual(last(*start, up(1)), [2])
        self.assertEqual(last(*start, sit(0, 1)), [-3])
        self.assertEqual(last(*start, sit(2, 2)), [-4])
        self.assertEqual(last(*start, sit(2, 3)), [2, 18])
        self.assertEqual(last(*start, CHANGE), [0, 0, 2])
        self.assertEqual(last(*start, DO), [0])
        self.assertEqual(last(*start, LOOK), [2, 1, 2, 9, 2, 0, 0, 1, 2])

    def test_level_can_nearest_and_only_are_the_same_afterwards(self):
        asked = [LEVEL, can(0, 0), can(1, 2), NEAREST, only(0), only(1, 0), only(2, 0, 1)]
        before = run(begin(2, [1, 2, 3]), *asked)[1:]
        after = run(begin(2, [1, 2, 3]), sit(0, 1), sit(1, 0), DO, *asked)
        self.assertEqual(after[3], [2])
        self.assertEqual(after[4:], before)

    def test_every_seating_of_small_boards(self):
        for side, weights in SMALL:
            for seat_of in every_seating(side, weights):
                best = changed(side, weights, seat_of)
                seats = list(seat_of.values()) if best == [-6] else best[1:]
                pairs = [number for pair in zip(seat_of, seats) for number in pair]
                told = run(*seated(side, weights, seat_of), DO, LOOK)
                self.assertEqual(told[-2:], [best[:1], [side, *weights, len(seat_of), *pairs]], (weights, seat_of))

    def test_it_balances_afterwards(self):
        for weights, seat_of in large_seatings():
            done, tips, change = run(*seated(4, weights, seat_of), DO, TIP, CHANGE)[-3:]
            if done == [-6]:
                self.assertEqual(change, [-6], (weights, seat_of))
            else:
                self.assertEqual([tips, change[0]], [[0, 0], 0], (weights, seat_of))

    def test_without_a_seesaw(self):
        self.assertEqual(run(DO, begin(1, [5]), DO), [[-9], [0], [0]])


if __name__ == "__main__":
    unittest.main()
