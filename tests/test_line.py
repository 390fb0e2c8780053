"""The interface: how a line is written, and what holds for every line."""

import unittest
from itertools import product

from support import CHANGE, DO, LEVEL, LOOK, NEAREST, TIP, begin, can, last, only, run, sit, told_by_model, up

from tipboard.beam import answers

LINE = [0, 2, 2, 1, 2, 1, 0, 1, 3, 4, 5, 1, 2, 1, 0, 0, 2, 0, 2, 0, 0, 9, 0, 3,
        1, 0, 0, 1, 1, 3, 6, 7, 8, 9, 2, 1, 0, 10, 9, 0, 9, 1, 0, 9, 1, 7]
TOLD = [1, 0, 2, 1, 1, 2, 1, 1, 3, 2, 0, 2, 1, 1, 1, -3, 1, 1, 1, -3, 1, -1, 2, 0, 0,
        2, 1, 2, 2, 2, 2, 4, 0, 2, 0, 2, 3, 1, 0, 2, 1, 1, 1, 2, 8, 2, 1, 2, 2, 0, 0, 1, 2, 1, 1, 1, 0, 1, -1]


class Written(unittest.TestCase):
    def test_each_call_number_by_number(self):
        self.assertEqual(answers(LINE), TOLD)

    def test_one_call(self):
        self.assertEqual(answers([3]), [1, -9])
        self.assertEqual(answers([0, 1, 1, 1]), [1, 0])
        self.assertEqual(answers([0, 1, 0]), [1, -1])

    def test_the_row_ends_where_its_count_says(self):
        self.assertEqual(answers([0, 1, 0, 0, 1, 1, 3, 3]), [1, -1, 1, 0, 2, 0, 0])
        self.assertEqual(answers([0, 4, 8, 1, 1, 1, 1, 1, 1, 1, 1, 3]), [1, -1, 1, -9])
        self.assertEqual(answers([9, 8, 1, 1, 1, 1, 1, 1, 1, 1, 9, 0, 10]), [1, -9] * 3)
        self.assertEqual(answers([0, 1, 1, 1, 9, 0, 9, 8, 0, 0, 0, 0, 0, 0, 0, 0, 3]), [1, 0, 1, 1, 1, -1, 2, 0, 0])

    def test_whole_numbers_in_a_list(self):
        told = answers(LINE)
        self.assertIs(type(told), list)
        self.assertEqual({type(number) for number in told}, {int})

    def test_sixty_calls(self):
        told = run(begin(4, [3, 5, 7, 11, 13]), *[LEVEL] * 59)
        self.assertEqual(told[1:], [[64, 0, 1, 2, 3, 7]] * 59)


class WithoutASeesaw(unittest.TestCase):
    def test_all_but_begin(self):
        for call in (sit(0, 0), sit(9, 20), up(0), up(9), TIP, LEVEL, can(0, 0), can(9, 20),
                     NEAREST, CHANGE, DO, only(), only(0), only(0, 0, 9), only(*range(8)), LOOK):
            self.assertEqual(run(call), [[-9]], call)
            self.assertEqual(run(begin(0, []), call, call, begin(1, [1]), TIP),
                             [[-1], [-9], [-9], [0], [0, 0]], call)


class Numbers:
    """Numbers that look picked at will, and are the same each time."""

    def __init__(self, start):
        self.state = start

    def below(self, end):
        self.state = (self.state * 1103515245 + 12345) % 2 ** 31
        return (self.state >> 12) % end

    def one_of(self, choices):
        return choices[self.below(len(choices))]


def any_begin(numbers):
    if numbers.below(4) == 0:
        return begin(numbers.below(10), [numbers.below(100) for time in range(numbers.below(9))])
    side = 1 + numbers.below(4)
    most = numbers.one_of((2, 6, 60))
    return begin(side, [1 + numbers.below(most) for time in range(1 + numbers.below(min(5, 2 * side)))])


def any_call(numbers):
    # Most of the children and seats that are named are there, so that not all is refused.
    child = numbers.below(numbers.one_of((3, 5, 10)))
    seat = numbers.below(numbers.one_of((4, 8, 21)))
    children = [numbers.below(numbers.one_of((2, 5, 10))) for time in range(numbers.below(numbers.one_of((3, 4, 9))))]
    return numbers.one_of([sit(child, seat)] * 6 + [up(child)] * 2 + [only(*children)] * 2
                          + [TIP, LEVEL, can(child, seat), NEAREST, CHANGE, DO, LOOK])


class ManyCalls(unittest.TestCase):
    def test_every_line_of_three_calls_on_a_small_board(self):
        choices = [sit(child, seat) for child in range(3) for seat in range(3)]
        choices += [up(0), up(1), up(2), TIP, LEVEL, can(0, 1), can(2, 0), can(0, 2), NEAREST, CHANGE, DO, LOOK]
        choices += [only(), only(0), only(1, 0), only(1, 1), only(2)]
        for calls in product(choices, repeat=3):
            line = [begin(1, [3, 3]), *calls, LOOK]
            self.assertEqual(run(*line), told_by_model(line), line)

    def test_lines_of_sixty_calls_in_any_order(self):
        answered = {}
        for start in range(150):
            numbers = Numbers(start)
            line = [any_call(numbers) for time in range(60)]
            for at in (0 if start % 3 else 5, 20, 21, 40):
                line[at] = any_begin(numbers)
            told = run(*line)
            self.assertEqual(told, told_by_model(line), line)
            for call, numbers_told in zip(line, told):
                answered.setdefault(call[0], set()).add(min(numbers_told[0], 0))
        # Lines that never come to a refusal, or to nothing else, would show little.
        self.assertEqual(answered, {
            0: {0, -1}, 1: {0, -9, -2, -1, -3, -4}, 2: {0, -9, -2, -3}, 3: {0, -9}, 4: {0, -9}, 5: {0, -9, -2, -1},
            6: {0, -9}, 7: {0, -9, -6}, 8: {0, -9, -6}, 9: {0, -9, -1}, 10: {0, -9}})

    def test_a_second_begin_and_a_refused_one(self):
        told = run(begin(2, [1, 2]), sit(0, 0), sit(1, 3), begin(5, [1]), LOOK, DO, LOOK,
                   begin(1, [4, 4, 4]), CHANGE, begin(1, [4, 4]), LOOK, CHANGE, only(0, 1), NEAREST, sit(1, 0), CHANGE)
        self.assertEqual(told, [[0], [1, 2], [2, 2], [-1], [2, 1, 2, 2, 0, 0, 1, 3], [1], [2, 1, 2, 2, 0, 0, 1, 2],
                                [-1], [0, 0, 2], [0], [1, 4, 4, 0], [0], [2], [0, 2, 0, 1], [1, 4], [-6]])

    def test_sixty_of_the_longest_answers(self):
        line = [begin(4, [1, 60, 7, 59, 30])] + [sit(child, child + 2) for child in range(5)]
        line += [LOOK, NEAREST, CHANGE] * 18
        self.assertEqual(len(line), 60)
        self.assertEqual(run(*line), told_by_model(line))


class Kept(unittest.TestCase):
    def test_the_list_handed_in_is_the_same_afterwards(self):
        handed = list(LINE)
        answers(handed)
        self.assertEqual(handed, LINE)

    def test_it_is_not_changed_for_a_while_either(self):
        class Watched(list):
            def refuse(self, *given):
                raise AssertionError("the list was changed")

            append = extend = insert = pop = remove = reverse = sort = clear = refuse
            __setitem__ = __delitem__ = __iadd__ = __imul__ = refuse

        self.assertEqual(answers(Watched(LINE)), TOLD)

    def test_the_same_when_called_again(self):
        self.assertEqual([answers(LINE) for time in range(3)], [TOLD] * 3)

    def test_no_seesaw_is_left_from_another_line(self):
        last(begin(2, [1, 2]), sit(0, 0))
        self.assertEqual(last(TIP), [-9])
        self.assertEqual(last(begin(2, [1, 2]), TIP), [0, 0])

    def test_what_is_given_back_is_new(self):
        answers(LINE).append(7)
        self.assertEqual(answers(LINE), TOLD)


if __name__ == "__main__":
    unittest.main()
