"""Promise 7: missing."""

import unittest
from itertools import product

from tests.helper import (MOST, ask, arms, begins, chain, hang, hang_all, last, mend, missing, pulls, reckoned_least,
                          reckoned_missing, scale, shapes, state, state_of)

# Its least weights are 8, 1 and 3.
SHAPE = [1, 2, 0, 3, 1, 0, 0]
THREE = begins(SHAPE)
# Its least weights are 9, 9, 4 and 8.
DEEP = begins([4, 6, 1, 1, 0, 0, 2, 1, 0, 0])


class Missing(unittest.TestCase):

    def test_what_has_to_hang_at_a_hook_at_which_nothing_hangs(self):
        self.assertEqual(last(begins([2, 3, 0, 0]), hang(0, 9), missing(1)), [6])
        self.assertEqual(last(begins([2, 3, 0, 0]), hang(1, 6), missing(0)), [9])
        self.assertEqual(last(THREE, *hang_all([0, 1, 3]), missing(0)), [8])
        self.assertEqual(last(THREE, *hang_all([0, 5, 15]), missing(0)), [40])
        self.assertEqual(last(THREE, *hang_all([40, 0, 15]), missing(1)), [5])
        self.assertEqual(last(THREE, *hang_all([40, 5, 0]), missing(2)), [15])
        self.assertEqual(last(DEEP, *hang_all([27, 27, 12, 0]), missing(3)), [24])

    def test_whatever_hangs_there_now(self):
        for now in (0, 1, 8, 16, 40, 41, 1000000):
            self.assertEqual(last(THREE, *hang_all([now, 5, 15]), missing(0)), [40])
            self.assertEqual(last(THREE, *hang_all([40, now, 15]), missing(1)), [5])
            self.assertEqual(last(THREE, *hang_all([40, 5, now]), missing(2)), [15])

    def test_each_hook_of_weights_that_balance(self):
        self.assertEqual(ask(DEEP, scale(6), *[missing(hook) for hook in range(4)])[2:], [[54], [54], [24], [48]])
        self.assertEqual(ask(THREE, mend(), *[missing(hook) for hook in range(3)])[2:], [[8], [1], [3]])

    def test_the_only_hook(self):
        self.assertEqual(ask(missing(0), hang(0, 1), missing(0), hang(0, 7), missing(0), hang(0, 1000000), missing(0)),
                         [[1], [1], [1], [7], [1], [1000000], [1]])
        self.assertEqual(ask(THREE, begins([0]), missing(0), missing(1)), [[3], [1], [1], [-2]])

    def test_answers_above_1000000(self):
        self.assertEqual(last(begins([1, 20, 0, 0]), hang(1, 50000), missing(0)), [1000000])
        self.assertEqual(last(begins([1, 20, 0, 0]), hang(1, 50001), missing(0)), [1000020])
        self.assertEqual(last(begins([1, 20, 0, 0]), hang(1, 1000000), missing(0)), [20000000])
        self.assertEqual(last(begins(chain(4, 1, 20)), *hang_all([0, 999600, 47600, 2380]), missing(0)), [20991600])
        self.assertEqual(last(begins(chain(7)), *hang_all([0, 1000000, 500000, 250000, 125000, 62500, 62500]),
                              missing(0)), [2000000])

    def test_no_such_hook(self):
        self.assertEqual(ask(missing(1), missing(2), missing(MOST)), [[-2]] * 3)
        self.assertEqual(ask(THREE, scale(1), missing(2), missing(3), missing(4), missing(MOST))[2:],
                         [[3], [-2], [-2], [-2]])
        self.assertEqual(ask(begins(chain(7)), scale(1), missing(6), missing(7))[2:], [[1], [-2]])

    def test_no_such_hook_is_told_first(self):
        for hung in ([0, 0, 0], [1, 1, 1], [8, 2, 0], [9, 0, 0]):
            self.assertEqual(ask(THREE, *hang_all(hung), missing(3), missing(MOST))[-2:], [[-2], [-2]])

    def test_others_that_are_not_the_same_number_of_times(self):
        self.assertEqual(last(THREE, *hang_all([0, 1, 6]), missing(0)), [-6])
        self.assertEqual(last(THREE, *hang_all([0, 2, 3]), missing(0)), [-6])
        self.assertEqual(last(THREE, *hang_all([16, 0, 3]), missing(1)), [-6])
        self.assertEqual(last(THREE, *hang_all([8, 2, 0]), missing(2)), [-6])
        self.assertEqual(last(DEEP, *hang_all([9, 9, 8, 0]), missing(3)), [-6])
        self.assertEqual(last(DEEP, *hang_all([9, 18, 4, 0]), missing(3)), [-6])
        self.assertEqual(last(DEEP, *hang_all([18, 9, 4, 0]), missing(3)), [-6])

    def test_others_that_are_no_whole_number_of_times(self):
        self.assertEqual(last(THREE, *hang_all([0, 1, 4]), missing(0)), [-6])
        self.assertEqual(last(THREE, *hang_all([9, 0, 3]), missing(1)), [-6])
        self.assertEqual(last(THREE, *hang_all([9, 1, 0]), missing(2)), [-6])
        self.assertEqual(last(begins([2, 3, 0, 0]), hang(0, 4), missing(1)), [-6])
        self.assertEqual(last(begins([2, 3, 0, 0]), hang(0, 1), missing(1)), [-6])
        self.assertEqual(last(begins([2, 3, 0, 0]), hang(1, 3), missing(0)), [-6])
        self.assertEqual(last(begins([20, 1, 0, 0]), hang(1, 999999), missing(0)), [-6])

    def test_others_that_are_the_same_share_but_no_whole_one(self):
        # 3, 2 and 2 are the least weights.
        calls = [begins([4, 3, 0, 1, 1, 0, 0])]
        self.assertEqual(last(*calls, *hang_all([0, 1, 1]), missing(0)), [-6])
        self.assertEqual(last(*calls, *hang_all([0, 3, 3]), missing(0)), [-6])
        self.assertEqual(last(*calls, *hang_all([0, 4, 4]), missing(0)), [6])

    def test_nothing_hangs_at_another(self):
        self.assertEqual(last(THREE, *hang_all([8, 0, 0]), missing(1)), [-4])
        self.assertEqual(last(THREE, *hang_all([8, 0, 0]), missing(2)), [-4])
        self.assertEqual(last(THREE, *hang_all([0, 1, 0]), missing(0)), [-4])
        self.assertEqual(last(THREE, *hang_all([0, 0, 3]), missing(0)), [-4])
        self.assertEqual(last(DEEP, *hang_all([9, 0, 4, 0]), missing(3)), [-4])
        self.assertEqual(last(DEEP, *hang_all([0, 9, 4, 5]), missing(3)), [-4])

    def test_nothing_hangs_at_any_other(self):
        for hooks in range(2, 8):
            for hook in range(hooks):
                self.assertEqual(ask(begins(chain(hooks)), missing(hook), hang(hook, 5), missing(hook))[1::2],
                                 [[-4], [-4]])

    def test_wrong_others_are_told_ahead_of_a_hook_at_which_nothing_hangs(self):
        self.assertEqual(last(THREE, *hang_all([9, 0, 0]), missing(1)), [-6])
        self.assertEqual(last(THREE, *hang_all([0, 0, 4]), missing(0)), [-6])
        self.assertEqual(last(THREE, *hang_all([0, 0, 4]), missing(1)), [-6])
        self.assertEqual(last(DEEP, *hang_all([9, 18, 0, 0]), missing(2)), [-6])
        self.assertEqual(last(DEEP, *hang_all([0, 9, 8, 0]), missing(3)), [-6])
        self.assertEqual(last(DEEP, *hang_all([0, 9, 5, 0]), missing(3)), [-6])

    def test_what_hangs_there_now_is_never_the_reason(self):
        self.assertEqual(last(THREE, *hang_all([9, 0, 0]), missing(0)), [-4])
        self.assertEqual(last(DEEP, *hang_all([9, 9, 0, 1]), missing(3)), [-4])
        self.assertEqual(last(DEEP, *hang_all([9, 9, 4, 1]), missing(3)), [8])
        self.assertEqual(last(DEEP, *hang_all([1, 18, 8, 16]), missing(0)), [18])

    def test_it_balances_with_what_is_answered(self):
        for shape in shapes(7):
            least = reckoned_least(shape)
            times = 1000000 // max(least)
            if times > 0:
                for hook, one in enumerate(least):
                    rods = len(least) - 1
                    told = ask(begins(shape), scale(times), hang(hook, 0), missing(hook), hang(hook, times * one),
                               pulls(), missing(hook))
                    self.assertEqual(told[3], [times * one] if rods else [1], shape)
                    self.assertEqual(told[5], [1, rods] + [0] * rods, shape)
                    self.assertEqual(told[6], told[3], shape)

    def test_every_form_with_right_and_wrong_others(self):
        for shape in shapes(4):
            least = reckoned_least(shape)
            for chosen in product([0, 1, 2, 3], repeat=len(least)):
                hung = [min(1000000, one * least[hook] + (one == 3)) for hook, one in enumerate(chosen)]
                asked = range(len(least) + 1)
                told = ask(begins(shape), *hang_all(hung), *[missing(hook) for hook in asked])
                self.assertEqual(told[1 + len(least):], [reckoned_missing(shape, hook, hung) for hook in asked],
                                 (shape, hung))

    def test_every_form_of_up_to_seven_hooks(self):
        for shape in shapes(7):
            least = reckoned_least(shape)
            for left_out in range(len(least)):
                hung = [min(1000000, 2 * weight) for weight in least]
                hung[left_out] = 0
                asked = range(len(least))
                told = ask(begins(shape), *hang_all(hung), *[missing(hook) for hook in asked])
                self.assertEqual(told[1 + len(least):], [reckoned_missing(shape, hook, hung) for hook in asked],
                                 (shape, hung))

    def test_the_arms_are_those_given_last(self):
        self.assertEqual(ask(begins([1, 1, 0, 0]), hang(0, 6), missing(1), arms(0, 2, 3), missing(1), arms(0, 3, 4),
                             missing(1))[2::2], [[6], [4], [-6]])

    def test_nothing_is_changed(self):
        for hung in ([40, 5, 15], [0, 5, 15], [9, 0, 0], [8, 0, 0], [0, 0, 0]):
            for hook in (0, 1, 2, 3, MOST):
                told = ask(THREE, *hang_all(hung), missing(hook), state(), missing(hook))
                self.assertEqual(told[-2], state_of(SHAPE, hung))
                self.assertEqual(told[-1], told[-3])
        self.assertEqual(ask(hang(0, 7), missing(0), state(), missing(1), state()),
                         [[7], [1], [0, 1, 0, 1, 7], [-2], [0, 1, 0, 1, 7]])


if __name__ == "__main__":
    unittest.main()
