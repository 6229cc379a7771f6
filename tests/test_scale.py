"""Promise 2: scale."""

import unittest

from tests.helper import (MOST, ask, arms, begins, chain, hang, hang_all, hung_after, last, pulls, reach_after,
                          reckoned_least, scale, shapes)

THREE = begins([1, 2, 0, 3, 1, 0, 0])


class Scale(unittest.TestCase):

    def test_that_many_times_the_least_weights_hang(self):
        self.assertEqual(ask(THREE, scale(1)), [[3], [12]])
        self.assertEqual(hung_after([THREE, scale(1)], 3), [8, 1, 3])
        self.assertEqual(ask(THREE, scale(7)), [[3], [84]])
        self.assertEqual(hung_after([THREE, scale(7)], 3), [56, 7, 21])

    def test_what_hung_before_is_gone(self):
        calls = [THREE] + hang_all([4, 5, 6]) + [scale(2)]
        self.assertEqual(last(*calls), [24])
        self.assertEqual(hung_after(calls, 3), [16, 2, 6])
        self.assertEqual(hung_after([THREE, scale(5), scale(2)], 3), [16, 2, 6])

    def test_it_is_level_then(self):
        self.assertEqual(ask(THREE, hang(0, 3), scale(9), pulls()), [[3], [3], [108], [1, 2, 0, 0]])

    def test_one_hook_alone(self):
        self.assertEqual(ask(scale(1), scale(1000000), scale(1000001), hang(0, 3)), [[1], [1000000], [-1], [3]])

    def test_a_weight_of_just_1000000_and_one_above_it(self):
        self.assertEqual(ask(begins([1, 1, 0, 0]), scale(1000000), scale(1000001)), [[2], [2000000], [-1]])
        self.assertEqual(ask(begins([1, 20, 0, 0]), scale(50000), scale(50001)), [[2], [1050000], [-1]])
        self.assertEqual(ask(begins([20, 1, 0, 0]), scale(50000), scale(50001)), [[2], [1050000], [-1]])
        self.assertEqual(ask(THREE, scale(125000), scale(125001)), [[3], [1500000], [-1]])
        self.assertEqual(hung_after([THREE, scale(125000)], 3), [1000000, 125000, 375000])

    def test_0_times_and_very_many_times(self):
        self.assertEqual(ask(scale(0), scale(MOST)), [[-1], [-1]])
        self.assertEqual(ask(THREE, scale(0), scale(MOST)), [[3], [-1], [-1]])

    def test_least_weights_that_are_above_1000000_themselves(self):
        self.assertEqual(ask(begins(chain(7, 1, 20)), scale(1), scale(0)), [[7], [-1], [-1]])

    def test_every_form_up_to_seven_hooks(self):
        for shape in shapes(7):
            weights = reckoned_least(shape)
            times = 1000000 // max(weights)
            told = ask(begins(shape), scale(times), pulls(), scale(times + 1))
            if times > 0:
                self.assertEqual(told[1], [times * sum(weights)], shape)
                self.assertEqual(told[2][0], 1, shape)
            else:
                self.assertEqual(told[1], [-1], shape)
            self.assertEqual(told[3], [-1], shape)

    def test_all_is_as_it_was_behind_a_refusal(self):
        calls = [THREE, arms(0, 3, 2)] + hang_all([4, 5, 6])
        for wrong in (scale(0), scale(1000001), scale(MOST)):
            self.assertEqual(last(*calls, wrong), [-1])
            self.assertEqual(hung_after(calls + [wrong], 3), [4, 5, 6])
            self.assertEqual(reach_after(calls + [wrong], 3), [[3, 0], [-2, 3], [-2, -1]])

    def test_arms_stay_and_those_given_last_count(self):
        calls = [begins([1, 1, 0, 0]), arms(0, 2, 3), scale(10)]
        self.assertEqual(last(*calls), [50])
        self.assertEqual(hung_after(calls, 2), [30, 20])
        self.assertEqual(reach_after(calls, 2), [[2], [-3]])

    def test_what_hangs_behind_it_can_be_hung_anew_at_one_hook(self):
        self.assertEqual(hung_after([THREE, scale(2), hang(1, 9)], 3), [16, 9, 6])
        self.assertEqual(last(THREE, scale(2), hang(1, 9), scale(2), pulls()), [1, 2, 0, 0])


if __name__ == "__main__":
    unittest.main()
