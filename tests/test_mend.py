"""Promise 4: mend."""

import unittest
from itertools import product

from tests.helper import (ask, arms, begins, chain, hang, hang_all, last, least, mend, pulls, reckoned_least,
                          reckoned_mend, scale, shapes, state, state_of, up)

# Its least weights are 8, 1 and 3.
SHAPE = [1, 2, 0, 3, 1, 0, 0]
THREE = begins(SHAPE)
# Its least weights are 9, 9, 4 and 8.
DEEP_SHAPE = [4, 6, 1, 1, 0, 0, 2, 1, 0, 0]
DEEP = begins(DEEP_SHAPE)


class Mend(unittest.TestCase):

    def test_the_multiple_that_leaves_the_most_hooks(self):
        self.assertEqual(last(THREE, *hang_all([16, 2, 7]), mend()), [1, 3, 16, 2, 6])
        self.assertEqual(last(THREE, *hang_all([16, 3, 6]), mend()), [1, 3, 16, 2, 6])
        self.assertEqual(last(THREE, *hang_all([8, 2, 6]), mend()), [1, 3, 16, 2, 6])
        self.assertEqual(last(DEEP, *hang_all([27, 9, 4, 24]), mend()), [2, 4, 9, 9, 4, 8])
        self.assertEqual(last(DEEP, *hang_all([9, 45, 20, 40]), mend()), [1, 4, 45, 45, 20, 40])

    def test_more_hooks_go_ahead_of_fewer_times(self):
        self.assertEqual(last(THREE, *hang_all([8, 5, 15]), mend()), [1, 3, 40, 5, 15])
        self.assertEqual(last(begins(chain(4)), *hang_all([4, 16, 8, 8]), mend()), [1, 4, 32, 16, 8, 8])

    def test_of_several_that_leave_as_many_the_least_number_of_times(self):
        self.assertEqual(last(THREE, *hang_all([40, 4, 9]), mend()), [2, 3, 24, 3, 9])
        self.assertEqual(last(THREE, *hang_all([24, 4, 15]), mend()), [2, 3, 24, 3, 9])
        self.assertEqual(last(THREE, *hang_all([0, 7, 18]), mend()), [2, 3, 48, 6, 18])
        self.assertEqual(last(DEEP, *hang_all([27, 27, 8, 16]), mend()), [2, 4, 18, 18, 8, 16])
        self.assertEqual(last(DEEP, *hang_all([18, 27, 12, 16]), mend()), [2, 4, 18, 18, 8, 16])
        self.assertEqual(last(begins([1, 1, 0, 0]), *hang_all([1000000, 1]), mend()), [1, 2, 1, 1])

    def test_nothing_has_to_be_changed(self):
        self.assertEqual(last(THREE, *hang_all([8, 1, 3]), mend()), [0, 3, 8, 1, 3])
        self.assertEqual(last(THREE, scale(50), mend()), [0, 3, 400, 50, 150])
        self.assertEqual(ask(DEEP, hang(0, 5), mend(), mend()), [[4], [5], [4, 4, 9, 9, 4, 8], [0, 4, 9, 9, 4, 8]])

    def test_a_hook_at_which_nothing_hung_counts(self):
        self.assertEqual(last(THREE, hang(1, 4), mend()), [2, 3, 32, 4, 12])
        self.assertEqual(last(THREE, hang(0, 16), hang(2, 6), mend()), [1, 3, 16, 2, 6])
        self.assertEqual(last(THREE, hang(0, 17), hang(2, 6), mend()), [2, 3, 16, 2, 6])

    def test_once_if_nothing_hangs(self):
        self.assertEqual(last(THREE, mend()), [3, 3, 8, 1, 3])
        self.assertEqual(last(begins([1, 1, 0, 0]), mend()), [2, 2, 1, 1])
        self.assertEqual(last(DEEP, mend()), [4, 4, 9, 9, 4, 8])

    def test_once_if_at_no_hook_anything_can_stay(self):
        self.assertEqual(last(THREE, *hang_all([9, 0, 4]), mend()), [3, 3, 8, 1, 3])
        self.assertEqual(last(THREE, *hang_all([1, 0, 1]), mend()), [3, 3, 8, 1, 3])
        self.assertEqual(last(DEEP, *hang_all([19, 17, 21, 17]), mend()), [4, 4, 9, 9, 4, 8])
        self.assertEqual(last(begins([2, 3, 0, 0]), *hang_all([1000000, 999999]), mend()), [2, 2, 3, 2])

    def test_what_is_no_whole_multiple_cannot_stay(self):
        self.assertEqual(last(THREE, *hang_all([17, 0, 15]), mend()), [2, 3, 40, 5, 15])
        # 3, 2 and 2 are the least weights: twice half of them stays nowhere.
        self.assertEqual(last(begins([4, 3, 0, 1, 1, 0, 0]), *hang_all([12, 3, 3]), mend()), [2, 3, 12, 8, 8])
        self.assertEqual(last(begins([4, 3, 0, 1, 1, 0, 0]), *hang_all([0, 5, 5]), mend()), [3, 3, 3, 2, 2])

    def test_one_hook_alone(self):
        self.assertEqual(ask(mend(), state(), hang(0, 7), mend(), state()),
                         [[1, 1, 1], [0, 1, 0, 1, 1], [7], [0, 1, 7], [0, 1, 0, 1, 7]])
        self.assertEqual(ask(hang(0, 1000000), mend()), [[1000000], [0, 1, 1000000]])

    def test_these_weights_hang_from_now_on(self):
        for hung, mended in (([16, 2, 7], [16, 2, 6]), ([0, 0, 0], [8, 1, 3]), ([9, 0, 4], [8, 1, 3]),
                             ([8, 1, 3], [8, 1, 3]), ([0, 125000, 0], [1000000, 125000, 375000])):
            self.assertEqual(ask(THREE, *hang_all(hung), mend(), state(), pulls())[-2:],
                             [state_of(SHAPE, mended), [1, 2, 0, 0]])
        self.assertEqual(ask(THREE, hang(1, 4), mend(), hang(0, 1), up(), mend())[-3:],
                         [[17], [-6], [1, 3, 32, 4, 12]])

    def test_a_weight_of_just_1000000_and_one_above_it(self):
        self.assertEqual(last(begins([1, 20, 0, 0]), hang(1, 50000), mend()), [1, 2, 1000000, 50000])
        self.assertEqual(last(begins([1, 20, 0, 0]), hang(1, 50001), mend()), [-1])
        self.assertEqual(last(begins([20, 1, 0, 0]), hang(0, 50000), mend()), [1, 2, 50000, 1000000])
        self.assertEqual(last(begins([20, 1, 0, 0]), hang(0, 50001), mend()), [-1])
        self.assertEqual(last(THREE, hang(1, 125000), mend()), [2, 3, 1000000, 125000, 375000])
        self.assertEqual(last(THREE, hang(1, 125001), mend()), [-1])
        self.assertEqual(last(THREE, hang(2, 999999), mend()), [-1])
        self.assertEqual(last(begins(chain(2)), hang(0, 1000000), mend()), [1, 2, 1000000, 1000000])

    def test_too_heavy_though_fewer_times_would_leave_some(self):
        # At two hooks 200000 times can stay, at the other one once.
        self.assertEqual(last(THREE, *hang_all([8, 200000, 600000]), mend()), [-1])
        self.assertEqual(last(THREE, *hang_all([8, 125000, 375000]), mend()), [1, 3, 1000000, 125000, 375000])

    def test_fewer_times_are_taken_though_as_many_hooks_would_be_too_heavy(self):
        self.assertEqual(last(THREE, *hang_all([8, 200000, 0]), mend()), [2, 3, 8, 1, 3])
        self.assertEqual(last(THREE, *hang_all([0, 999999, 6]), mend()), [2, 3, 16, 2, 6])

    def test_least_weights_that_are_above_1000000_themselves(self):
        self.assertEqual(last(begins(chain(7, 1, 20)), mend()), [-1])
        self.assertEqual(last(begins(chain(7, 1, 20)), hang(0, 1000000), mend()), [-1])
        self.assertEqual(last(begins(chain(7, 1, 20)), hang(6, 1), mend()), [-1])
        self.assertEqual(last(begins(chain(6, 1, 20)), mend()), [-1])
        self.assertEqual(last(begins(chain(5, 1, 20)), mend()), [5, 5, 185220, 8820, 420, 20, 1])

    def test_all_is_as_it_was_behind_a_refusal(self):
        for hung in ([0, 125001, 0], [8, 200000, 600000], [0, 0, 999999], [7, 1000000, 0]):
            told = ask(THREE, arms(0, 3, 6), *hang_all(hung), mend(), state(), mend())
            self.assertEqual(told[-3:], [[-1], state_of([3, 6, 0, 3, 1, 0, 0], hung), [-1]])
        shape = chain(7, 1, 20)
        self.assertEqual(ask(begins(shape), mend(), state()), [[7], [-1], state_of(shape, [0] * 7)])

    def test_the_mobiles_numbers_stay(self):
        self.assertEqual(ask(THREE, arms(1, 2, 2), hang(1, 4), mend(), state(), least())[-3:],
                         [[2, 3, 16, 4, 4], state_of([1, 2, 0, 2, 2, 0, 0], [16, 4, 4]), [6, 3, 4, 1, 1]])

    def test_the_arms_are_those_given_last(self):
        self.assertEqual(ask(begins([1, 1, 0, 0]), hang(0, 6), arms(0, 2, 3), mend(), arms(0, 1, 5), mend(),
                             arms(0, 1, 7), hang(1, 0), mend())[3:],
                         [[1, 2, 6, 4], [0], [1, 2, 20, 4], [0], [20], [2, 2, 7, 1]])

    def test_every_form_with_weights_that_stay_and_others(self):
        for shape in shapes(4):
            least_ones = reckoned_least(shape)
            for chosen in product([0, 1, 2, 3], repeat=len(least_ones)):
                hung = [min(1000000, one * least_ones[hook]) for hook, one in enumerate(chosen)]
                told = ask(begins(shape), *hang_all(hung), mend(), state())
                mended = reckoned_mend(shape, hung)
                self.assertEqual(told[-2], mended, (shape, hung))
                self.assertEqual(told[-1], state_of(shape, hung if mended == [-1] else mended[2:]), (shape, hung))

    def test_every_form_of_up_to_seven_hooks(self):
        several = [4, 2, 7, 2, 4, 9, 4]
        for shape in shapes(7):
            least_ones = reckoned_least(shape)
            for more in range(3):
                hung = [min(1000000, several[hook] * one + (hook == more)) for hook, one in enumerate(least_ones)]
                self.assertEqual(last(begins(shape), *hang_all(hung), mend()), reckoned_mend(shape, hung),
                                 (shape, hung))


if __name__ == "__main__":
    unittest.main()
