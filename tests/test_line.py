"""The interface: how a line is written, and what holds for every line."""

import unittest

from support import LEVEL, TIP, begin, can, last, run, sit, up

from tipboard.beam import answers

LINE = [0, 2, 2, 1, 2, 1, 0, 1, 3, 4, 5, 1, 2, 1, 0, 0, 2, 0, 2, 0, 0, 9, 0, 3]
TOLD = [1, 0, 2, 1, 1, 2, 1, 1, 3, 2, 0, 2, 1, 1, 1, -3, 1, 1, 1, -3, 1, -1, 2, 0, 0]


class Written(unittest.TestCase):
    def test_each_call_number_by_number(self):
        self.assertEqual(answers(LINE), TOLD)

    def test_one_call(self):
        self.assertEqual(answers([3]), [1, -9])
        self.assertEqual(answers([0, 1, 1, 1]), [1, 0])
        self.assertEqual(answers([0, 1, 0]), [1, -1])

    def test_the_row_ends_where_its_count_says(self):
        self.assertEqual(answers([0, 1, 0, 0, 1, 1, 3, 3]), [1, -1, 1, 0, 2, 0, 0])
        self.assertEqual(answers([0, 4, 8, 1, 1, 1, 1, 1, 1, 1, 1, 3]), [1, -1, 1, -9])

    def test_whole_numbers_in_a_list(self):
        told = answers(LINE)
        self.assertIs(type(told), list)
        self.assertEqual({type(number) for number in told}, {int})

    def test_sixty_calls(self):
        told = run(begin(4, [3, 5, 7, 11, 13]), *[LEVEL] * 59)
        self.assertEqual(told[1:], [[64, 0, 1, 2, 3, 7]] * 59)


class WithoutASeesaw(unittest.TestCase):
    def test_all_but_begin(self):
        for call in (sit(0, 0), sit(9, 20), up(0), up(9), TIP, LEVEL, can(0, 0), can(9, 20),
                     [6], [7], [8], [9, 0], [9, 3, 0, 0, 9], [10]):
            self.assertEqual(run(call), [[-9]], call)
            self.assertEqual(run(begin(0, []), call, call, begin(1, [1]), TIP),
                             [[-1], [-9], [-9], [0], [0, 0]], call)


class Kept(unittest.TestCase):
    def test_the_list_handed_in_is_the_same_afterwards(self):
        handed = list(LINE)
        answers(handed)
        self.assertEqual(handed, LINE)

    def test_it_is_not_changed_for_a_while_either(self):
        class Watched(list):
            def refuse(self, *given):
                raise AssertionError("the list was changed")

            append = extend = insert = pop = remove = reverse = sort = clear = refuse
            __setitem__ = __delitem__ = __iadd__ = __imul__ = refuse

        self.assertEqual(answers(Watched(LINE)), TOLD)

    def test_the_same_when_called_again(self):
        self.assertEqual([answers(LINE) for time in range(3)], [TOLD] * 3)

    def test_no_seesaw_is_left_from_another_line(self):
        last(begin(2, [1, 2]), sit(0, 0))
        self.assertEqual(last(TIP), [-9])
        self.assertEqual(last(begin(2, [1, 2]), TIP), [0, 0])

    def test_what_is_given_back_is_new(self):
        answers(LINE).append(7)
        self.assertEqual(answers(LINE), TOLD)


if __name__ == "__main__":
    unittest.main()
