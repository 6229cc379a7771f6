"""Promise 3: up."""

import unittest
from itertools import product

from tests.helper import (ask, arms, begins, chain, hang, hang_all, last, reckoned_least, reckoned_up, scale, shapes,
                          state, state_of, up)

# Its least weights are 8, 1 and 3.
SHAPE = [1, 2, 0, 3, 1, 0, 0]
THREE = begins(SHAPE)
# Its least weights are 9, 9, 4 and 8.
DEEP = begins([4, 6, 1, 1, 0, 0, 2, 1, 0, 0])


class Up(unittest.TestCase):

    def test_all_hooks_hung_with_so_many_times_the_least_weights(self):
        self.assertEqual(last(THREE, *hang_all([8, 1, 3]), up()), [1, 3, 8, 1, 3])
        self.assertEqual(last(THREE, *hang_all([56, 7, 21]), up()), [7, 3, 56, 7, 21])
        self.assertEqual(last(THREE, scale(125000), up()), [125000, 3, 1000000, 125000, 375000])
        self.assertEqual(last(DEEP, *hang_all([45, 45, 20, 40]), up()), [5, 4, 45, 45, 20, 40])

    def test_some_hooks_hung(self):
        self.assertEqual(last(THREE, hang(0, 16), up()), [2, 3, 16, 2, 6])
        self.assertEqual(last(THREE, hang(1, 2), up()), [2, 3, 16, 2, 6])
        self.assertEqual(last(THREE, hang(2, 6), up()), [2, 3, 16, 2, 6])
        self.assertEqual(last(THREE, *hang_all([0, 4, 12]), up()), [4, 3, 32, 4, 12])
        self.assertEqual(last(THREE, *hang_all([32, 0, 12]), up()), [4, 3, 32, 4, 12])
        self.assertEqual(last(THREE, *hang_all([32, 4, 0]), up()), [4, 3, 32, 4, 12])
        self.assertEqual(last(DEEP, *hang_all([0, 27, 0, 24]), up()), [3, 4, 27, 27, 12, 24])

    def test_nothing_hung_at_any_hook_is_made_up_once(self):
        self.assertEqual(last(begins([1, 1, 0, 0]), up()), [1, 2, 1, 1])
        self.assertEqual(last(THREE, up()), [1, 3, 8, 1, 3])
        self.assertEqual(last(DEEP, up()), [1, 4, 9, 9, 4, 8])
        self.assertEqual(last(THREE, *hang_all([1, 2, 3]), *hang_all([0, 0, 0]), up()), [1, 3, 8, 1, 3])

    def test_one_hook_alone(self):
        self.assertEqual(ask(up(), hang(0, 1), up(), hang(0, 7), up(), hang(0, 1000000), up(), hang(0, 0), up()),
                         [[1, 1, 1], [1], [1, 1, 1], [7], [7, 1, 7], [1000000], [1000000, 1, 1000000], [0], [1, 1, 1]])

    def test_multiples_at_each_hook_but_not_the_same_one(self):
        for hung in ([8, 2, 3], [16, 1, 3], [8, 1, 6], [16, 2, 3], [0, 1, 6], [8, 0, 6], [8, 2, 0], [16, 4, 12]):
            self.assertEqual(last(THREE, *hang_all(hung), up()), [-6], hung)
        self.assertEqual(last(begins([1, 1, 0, 0]), hang(0, 5), hang(1, 10), up()), [-6])
        self.assertEqual(last(begins([1, 1, 0, 0]), hang(0, 1000000), hang(1, 999999), up()), [-6])

    def test_no_whole_multiple(self):
        for hung in ([9, 0, 0], [7, 0, 0], [1, 0, 0], [4, 0, 0], [0, 0, 1], [0, 0, 4], [0, 0, 1000000],
                     [4, 0, 3], [8, 1, 4], [9, 1, 3], [12, 0, 0]):
            self.assertEqual(last(THREE, *hang_all(hung), up()), [-6], hung)

    def test_the_same_share_of_the_least_weights_but_no_whole_one(self):
        # 3, 2 and 2 are the least weights.
        calls = [begins([4, 3, 0, 1, 1, 0, 0])]
        self.assertEqual(last(*calls, *hang_all([0, 1, 1]), up()), [-6])
        self.assertEqual(last(*calls, *hang_all([0, 3, 3]), up()), [-6])
        self.assertEqual(last(*calls, *hang_all([0, 4, 4]), up()), [2, 3, 6, 4, 4])
        self.assertEqual(last(*calls, *hang_all([0, 4, 5]), up()), [-6])

    def test_hooks_that_leave_the_same_whole_number_but_are_not_so_many_times(self):
        self.assertEqual(last(THREE, *hang_all([16, 2, 7]), up()), [-6])
        self.assertEqual(last(THREE, *hang_all([17, 2, 6]), up()), [-6])
        self.assertEqual(last(THREE, *hang_all([23, 2, 8]), up()), [-6])

    def test_answers_above_1000000(self):
        self.assertEqual(last(THREE, hang(1, 1000000), up()), [1000000, 3, 8000000, 1000000, 3000000])
        self.assertEqual(last(begins([1, 20, 0, 0]), hang(1, 50001), up()), [50001, 2, 1000020, 50001])
        least = [20 * 21 ** 5, 20 * 21 ** 4, 20 * 21 ** 3, 20 * 21 ** 2, 20 * 21, 20, 1]
        self.assertEqual(last(begins(chain(7, 1, 20)), up()), [1, 7] + least)
        self.assertEqual(last(begins(chain(7, 1, 20)), hang(6, 1000000), up()),
                         [1000000, 7] + [1000000 * weight for weight in least])

    def test_a_least_weight_above_what_hangs(self):
        self.assertEqual(last(begins(chain(7, 1, 20)), hang(0, 1000000), up()), [-6])
        self.assertEqual(last(begins([1, 20, 0, 0]), hang(0, 19), up()), [-6])

    def test_every_form_with_every_choice_of_hooks_hung(self):
        for shape in shapes(5):
            least = reckoned_least(shape)
            times = max(1, 1000000 // max(least))
            for chosen in product([0, 1], repeat=len(least)):
                hung = [min(one * times * least[hook], 1000000) for hook, one in enumerate(chosen)]
                self.assertEqual(last(begins(shape), *hang_all(hung), up()), reckoned_up(shape, hung), (shape, hung))

    def test_every_form_of_six_and_seven_hooks(self):
        for shape in [shape for shape in shapes(7) if shape.count(0) > 5]:
            least = reckoned_least(shape)
            for hook in range(len(least)):
                hung = [0] * len(least)
                hung[hook] = min(3 * least[hook], 1000000)
                hung[hook - 1] = min(3 * least[hook - 1], 1000000)
                told = ask(begins(shape), *hang_all(hung), up(), hang(hook, 1), up())
                self.assertEqual(told[-3], reckoned_up(shape, hung), (shape, hung))
                hung[hook] = 1
                self.assertEqual(told[-1], reckoned_up(shape, hung), (shape, hung))

    def test_the_arms_are_those_given_last(self):
        self.assertEqual(ask(begins([1, 1, 0, 0]), hang(0, 6), up(), arms(0, 2, 3), up(), arms(0, 3, 4), up()),
                         [[2], [6], [6, 2, 6, 6], [0], [2, 2, 6, 4], [0], [-6]])

    def test_nothing_is_changed(self):
        for hung in ([0, 4, 12], [0, 0, 0], [8, 2, 3], [9, 0, 0], [0, 1000000, 0]):
            told = ask(THREE, *hang_all(hung), up(), state(), up(), state())
            self.assertEqual(told[5], state_of(SHAPE, hung))
            self.assertEqual(told[7], state_of(SHAPE, hung))
            self.assertEqual(told[6], told[4])


if __name__ == "__main__":
    unittest.main()
