"""Promise 1: hang."""

import unittest

from tests.helper import MOST, ask, arms, begins, chain, hang, hang_all, hung_after, last, pulls, reach_after, scale

THREE = begins([1, 2, 0, 3, 4, 0, 0])


class Hang(unittest.TestCase):

    def test_tells_what_hangs_at_all_hooks_together(self):
        self.assertEqual(ask(THREE, hang(0, 5), hang(2, 7), hang(1, 100)), [[3], [5], [12], [112]])

    def test_hangs_there_from_now_on_in_the_place_of_what_hung(self):
        self.assertEqual(ask(THREE, hang(0, 5), hang(1, 6), hang(0, 2)), [[3], [5], [11], [8]])
        self.assertEqual(hung_after([THREE, hang(0, 5), hang(1, 6), hang(0, 2)], 3), [2, 6, 0])

    def test_hangs_at_that_hook_alone(self):
        for hook in range(7):
            hung = [0] * 7
            hung[hook] = 9
            self.assertEqual(hung_after([begins(chain(7)), hang(hook, 9)], 7), hung)

    def test_nothing_takes_off_what_hung(self):
        self.assertEqual(ask(THREE, hang(0, 5), hang(1, 6), hang(0, 0), hang(1, 0)), [[3], [5], [11], [6], [0]])
        self.assertEqual(hung_after([THREE] + hang_all([1, 2, 3]) + [hang(1, 0)], 3), [1, 0, 3])

    def test_one_hook_alone(self):
        self.assertEqual(ask(hang(0, 1), hang(0, 8), hang(0, 0)), [[1], [8], [0]])

    def test_the_heaviest_weight_and_one_above_it(self):
        self.assertEqual(ask(hang(0, 1000000), hang(0, 1000001), hang(0, MOST)), [[1000000], [-1], [-1]])
        self.assertEqual(last(begins(chain(7)), *hang_all([1000000] * 7)), [7000000])

    def test_the_first_and_the_last_hook_and_one_behind_it(self):
        self.assertEqual(ask(THREE, hang(0, 1), hang(2, 1), hang(3, 1), hang(MOST, 1)), [[3], [1], [2], [-2], [-2]])
        self.assertEqual(ask(begins(chain(7)), hang(6, 4), hang(7, 4)), [[7], [4], [-2]])
        self.assertEqual(ask(hang(1, 0)), [[-2]])

    def test_no_such_hook_is_told_ahead_of_a_weight_too_heavy(self):
        self.assertEqual(ask(THREE, hang(3, 1000001), hang(MOST, MOST)), [[3], [-2], [-2]])

    def test_all_is_as_it_was_behind_a_refusal(self):
        calls = [THREE] + hang_all([4, 5, 6])
        for wrong in (hang(0, 1000001), hang(2, MOST), hang(3, 1), hang(3, 0), hang(MOST, MOST)):
            self.assertLess(last(*calls, wrong)[0], 0)
            self.assertEqual(hung_after(calls + [wrong], 3), [4, 5, 6])
            self.assertEqual(reach_after(calls + [wrong], 3), [[1, 0], [-2, 3], [-2, -4]])

    def test_hangs_in_the_place_of_what_scale_hung(self):
        self.assertEqual(ask(begins([2, 1, 0, 0]), scale(10), hang(0, 11), pulls()), [[2], [30], [31], [0, 1, 2]])

    def test_arms_stay(self):
        self.assertEqual(reach_after([THREE, arms(1, 9, 8), hang(0, 3)], 3), [[1, 0], [-2, 9], [-2, -8]])


if __name__ == "__main__":
    unittest.main()
