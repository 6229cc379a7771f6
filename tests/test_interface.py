"""The interface: how the calls lie in the list handed in, and the answers in the list given back."""

import unittest

from hungmobile.mobile import answers
from tests.helper import (MOST, ask, arms, begins, chain, hang, last, least, mend, missing, pulls, scale, state, up,
                          wants, ways)


class Unchanged(list):
    """A list that doesn't let itself be changed."""

    def refuse(self, *args, **kwargs):
        raise AssertionError("what is handed in was changed")

    append = clear = extend = insert = pop = remove = reverse = sort = refuse
    __setitem__ = __delitem__ = __iadd__ = __imul__ = refuse


LINE = [0, 7, 1, 2, 0, 3, 1, 0, 0,
        1, 0, 5,
        2, 1, 3, 1,
        3,
        4,
        5, 2,
        3,
        11,
        1, 1, 0,
        6,
        10, 1,
        9, 0, 3, 3, 8, 1,
        8,
        1, 1, 7,
        8,
        7,
        9, 1, 3, 3, 8, 1,
        9, 0, 3, 3, 8, 2,
        11]
ANSWERED = [1, 3,
            1, 5,
            1, 0,
            4, 0, 2, 5, 0,
            5, 12, 3, 8, 1, 3,
            1, 24,
            4, 1, 2, 0, 0,
            13, 2, 7, 1, 2, 0, 3, 1, 0, 0, 3, 16, 2, 6,
            1, 22,
            5, 2, 3, 16, 2, 6,
            1, 2,
            5, 1, 3, 8, 1, 3,
            1, -6,
            1, 29,
            6, 2, 4, 13, 16, 6, 7,
            5, 1, 3, 16, 2, 6,
            2, 1, 0,
            2, 0, 0,
            13, 2, 7, 1, 2, 0, 3, 1, 0, 0, 3, 16, 2, 6]


class Interface(unittest.TestCase):

    def test_each_call_alone(self):
        self.assertEqual(answers([0, 1, 0]), [1, 1])
        self.assertEqual(answers([0, 0]), [1, -1])
        self.assertEqual(answers([1, 0, 3]), [1, 3])
        self.assertEqual(answers([2, 0, 1, 1]), [1, -2])
        self.assertEqual(answers([3]), [2, 1, 0])
        self.assertEqual(answers([4]), [3, 1, 1, 1])
        self.assertEqual(answers([5, 9]), [1, 9])
        self.assertEqual(answers([6]), [3, 1, 1, 1])
        self.assertEqual(answers([7]), [3, 1, 1, 1])
        self.assertEqual(answers([8]), [1, -6])
        self.assertEqual(answers([9, 0, 1, 6]), [3, 1, 1, 6])
        self.assertEqual(answers([9, 0, 0]), [1, -1])
        self.assertEqual(answers([10, 0]), [1, 1])
        self.assertEqual(answers([11]), [5, 0, 1, 0, 1, 0])

    def test_a_list_without_numbers_is_told_as_0(self):
        self.assertEqual(answers([1, 0, 5, 3, 8, 9, 1, 1, 5]), [1, 5, 2, 1, 0, 2, 0, 0, 2, 1, 0])
        self.assertEqual(answers([0, 4, 1, 1, 0, 0, 9, 0, 2, 5, 6]), [1, 2, 2, 0, 0])

    def test_the_numbers_of_ways_lie_behind_how_many_they_are(self):
        self.assertEqual(answers([0, 4, 1, 1, 0, 0, 9, 1, 2, 5, 5, 9, 0, 2, 5, 5]), [1, 2, 2, 1, 0, 4, 1, 2, 5, 5])
        self.assertEqual(answers([9, 2, 3, 9, 9, 9, 9, 0, 1, 9]), [1, -1, 3, 1, 1, 9])

    def test_calls_one_behind_another(self):
        self.assertEqual(answers(LINE), ANSWERED)

    def test_a_refusal_stands_alone_and_the_calls_behind_it_are_answered(self):
        self.assertEqual(answers([0, 0, 1, 1, 1, 1, 0, 1000001, 2, 0, 1, 1, 5, 0, 3]),
                         [1, -1, 1, -2, 1, -1, 1, -2, 1, -1, 2, 1, 0])
        self.assertEqual(answers([0, 22] + chain(8) + [0, 2, 0, 0, 4]), [1, -5, 1, -1, 3, 1, 1, 1])
        self.assertEqual(answers([8, 10, 1, 9, 0, 0, 11, 0, 4, 1, 1, 0, 0, 10, 1, 1, 0, 3, 8, 1, 1, 2, 6, 10, 2, 3]),
                         [1, -6, 1, -2, 1, -1, 5, 0, 1, 0, 1, 0,
                          1, 2, 1, -4, 1, 3, 1, -6, 1, 5, 1, -6, 1, -2, 3, 0, 1, 1])

    def test_numbers_of_a_row_are_not_taken_for_calls(self):
        self.assertEqual(answers([0, 4, 3, 3, 4, 4, 3]), [1, -1, 2, 1, 0])
        self.assertEqual(answers([0, 4, 5, 3, 0, 0, 3]), [1, 2, 3, 1, 1, 0])

    def test_the_greatest_numbers_everywhere(self):
        self.assertEqual(ask(begins([MOST]), begins([MOST] * 60), hang(MOST, MOST), arms(MOST, MOST, MOST),
                             scale(MOST)), [[-1], [-1], [-2], [-2], [-1]])
        self.assertEqual(ask(ways(MOST, [MOST]), ways(MOST, [MOST] * 60), ways(MOST, [1]), missing(MOST), state()),
                         [[-1], [-1], [1, 0], [-2], [0, 1, 0, 1, 0]])

    def test_eighty_calls(self):
        self.assertEqual(ask(*[begins(chain(20) + [0, 0])] * 80), [[-1]] * 80)
        self.assertEqual(ask(*[hang(0, weight) for weight in range(80)]), [[weight] for weight in range(80)])
        self.assertEqual(last(begins(chain(7)), scale(2), *[least()] * 77, pulls()), [1, 6] + [0] * 6)
        self.assertEqual(ask(*[ways(0, [7] * 60)] * 80), [[-1]] * 80)
        for call, told in ((up(), [1, 1, 1]), (mend(), [0, 1, 1]), (wants(), [0, 0]), (ways(0, [3]), [1, 1, 3]),
                           (missing(0), [1]), (state(), [0, 1, 0, 1, 1])):
            self.assertEqual(ask(hang(0, 1), *[call] * 79), [[1]] + [told] * 79)

    def test_what_is_handed_in_stays_as_it_was(self):
        line = list(LINE)
        answers(line)
        self.assertEqual(line, LINE)
        self.assertEqual(answers(Unchanged(LINE)), ANSWERED)

    def test_nothing_is_kept_from_one_time_to_the_next(self):
        for line in (LINE, [0, 4, 1, 1, 0, 0, 5, 3], [0, 22] + chain(8)):
            answers(line)
            self.assertEqual(answers([3, 4, 1, 0, 0, 2, 0, 1, 1]), [2, 1, 0, 3, 1, 1, 1, 1, 0, 1, -2])
            self.assertEqual(answers([11, 6, 8]), [5, 0, 1, 0, 1, 0, 3, 1, 1, 1, 1, -6])
            self.assertEqual(answers(LINE), ANSWERED)

    def test_what_is_given_back_is_a_new_list(self):
        told = answers(LINE)
        told.clear()
        self.assertEqual(answers(LINE), ANSWERED)

    def test_what_is_given_back_is_a_list_of_whole_numbers(self):
        told = answers(LINE + [1, 9, 9, 2, 9, 9, 9, 5, 0, 0, 0, 10, 9, 9, 0, 0, 8])
        self.assertIs(type(told), list)
        self.assertEqual({type(number) for number in told}, {int})


if __name__ == "__main__":
    unittest.main()
