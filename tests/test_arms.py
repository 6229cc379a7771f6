"""Promise 1: arms."""

import unittest

from tests.helper import MOST, ask, arms, begins, chain, hang_all, hung_after, last, least, pulls, reach_after, scale

THREE = begins([1, 2, 0, 3, 4, 0, 0])


class Arms(unittest.TestCase):

    def test_tells_0_and_that_rod_has_these_arms_from_now_on(self):
        self.assertEqual(ask(THREE, arms(0, 5, 6)), [[3], [0]])
        self.assertEqual(reach_after([THREE, arms(0, 5, 6)], 3), [[5, 0], [-6, 3], [-6, -4]])
        self.assertEqual(reach_after([THREE, arms(1, 5, 6)], 3), [[1, 0], [-2, 5], [-2, -6]])
        self.assertEqual(reach_after([THREE, arms(1, 5, 6), arms(0, 7, 8), arms(1, 9, 10)], 3),
                         [[7, 0], [-8, 9], [-8, -10]])

    def test_what_hangs_stays(self):
        calls = [THREE] + hang_all([7, 8, 9]) + [arms(0, 5, 6), arms(1, 20, 20)]
        self.assertEqual(hung_after(calls, 3), [7, 8, 9])
        self.assertEqual(ask(begins([1, 1, 0, 0]), scale(4), arms(0, 2, 1), pulls()), [[2], [8], [0], [0, 1, 4]])

    def test_the_least_weights_are_those_of_the_new_arms(self):
        self.assertEqual(ask(begins([1, 1, 0, 0]), arms(0, 2, 3), least(), scale(10), least()),
                         [[2], [0], [5, 2, 3, 2], [50], [5, 2, 3, 2]])

    def test_arms_of_1_and_20_are_taken(self):
        self.assertEqual(ask(THREE, arms(0, 1, 20), arms(1, 20, 1)), [[3], [0], [0]])
        self.assertEqual(reach_after([THREE, arms(0, 1, 20), arms(1, 20, 1)], 3), [[1, 0], [-20, 20], [-20, -1]])

    def test_arms_that_are_not_1_to_20(self):
        for wrong in (0, 21, 22, MOST):
            self.assertEqual(ask(THREE, arms(0, wrong, 1), arms(1, 1, wrong), arms(0, wrong, wrong)),
                             [[3], [-1], [-1], [-1]])

    def test_the_first_and_the_last_rod_and_one_behind_it(self):
        self.assertEqual(ask(THREE, arms(0, 1, 1), arms(1, 1, 1), arms(2, 1, 1), arms(MOST, 1, 1)),
                         [[3], [0], [0], [-2], [-2]])
        self.assertEqual(ask(begins(chain(7)), arms(5, 1, 1), arms(6, 1, 1)), [[7], [0], [-2]])

    def test_one_hook_alone_has_no_rod(self):
        self.assertEqual(ask(arms(0, 1, 1), begins([0]), arms(0, 1, 1), arms(1, 1, 1)), [[-2], [1], [-2], [-2]])

    def test_no_such_rod_is_told_ahead_of_wrong_arms(self):
        self.assertEqual(ask(THREE, arms(2, 0, 21), arms(MOST, MOST, MOST)), [[3], [-2], [-2]])
        self.assertEqual(ask(arms(0, 0, 0)), [[-2]])

    def test_all_is_as_it_was_behind_a_refusal(self):
        calls = [THREE] + hang_all([4, 5, 6])
        for wrong in (arms(0, 0, 5), arms(0, 5, 0), arms(1, 21, 5), arms(1, 5, 21), arms(2, 5, 5), arms(MOST, 5, 5)):
            self.assertLess(last(*calls, wrong)[0], 0)
            self.assertEqual(hung_after(calls + [wrong], 3), [4, 5, 6])
            self.assertEqual(reach_after(calls + [wrong], 3), [[1, 0], [-2, 3], [-2, -4]])


if __name__ == "__main__":
    unittest.main()
