"""The call least, as 'The calls' and 'A mobile' tell it."""

import unittest
from itertools import product

from tests.helper import (ask, arms, begins, chain, hang_all, hung_after, last, least, reach_after, reckoned_least,
                          reckoned_pulls, shapes)


class Least(unittest.TestCase):

    def test_one_rod(self):
        self.assertEqual(ask(begins([1, 1, 0, 0]), least()), [[2], [2, 2, 1, 1]])
        self.assertEqual(ask(begins([2, 3, 0, 0]), least()), [[2], [5, 2, 3, 2]])
        self.assertEqual(ask(begins([3, 2, 0, 0]), least()), [[2], [5, 2, 2, 3]])

    def test_like_parts_of_the_arms_are_left_out(self):
        self.assertEqual(ask(begins([4, 6, 0, 0]), least()), [[2], [5, 2, 3, 2]])
        self.assertEqual(ask(begins([20, 20, 0, 0]), least()), [[2], [2, 2, 1, 1]])

    def test_arms_of_1_and_20(self):
        self.assertEqual(ask(begins([1, 20, 0, 0]), least()), [[2], [21, 2, 20, 1]])
        self.assertEqual(ask(begins([20, 1, 0, 0]), least()), [[2], [21, 2, 1, 20]])

    def test_rods_at_the_ends_of_rods(self):
        self.assertEqual(ask(begins([1, 2, 0, 3, 1, 0, 0]), least()), [[3], [12, 3, 8, 1, 3]])
        self.assertEqual(ask(begins([1, 1, 1, 1, 0, 0, 0]), least()), [[3], [4, 3, 1, 1, 2]])
        self.assertEqual(ask(begins([1, 1, 1, 1, 0, 0, 1, 2, 0, 0]), least()), [[4], [12, 4, 3, 3, 4, 2]])

    def test_like_parts_of_what_hangs_below_are_left_out(self):
        self.assertEqual(ask(begins([4, 6, 1, 1, 0, 0, 2, 1, 0, 0]), least()), [[4], [30, 4, 9, 9, 4, 8]])

    def test_one_hook_alone(self):
        self.assertEqual(ask(least(), begins([0]), least()), [[1, 1, 1], [1], [1, 1, 1]])

    def test_they_may_be_above_1000000(self):
        # Each hook of the chain bears 20 times all that is below it.
        expected = [20 * 21 ** 5, 20 * 21 ** 4, 20 * 21 ** 3, 20 * 21 ** 2, 20 * 21, 20, 1]
        self.assertEqual(ask(begins(chain(7, 1, 20)), least()), [[7], [21 ** 6, 7] + expected])
        self.assertEqual(last(begins(chain(7, 20, 19)), least())[2:], reckoned_least(chain(7, 20, 19)))

    def test_every_form_up_to_seven_hooks(self):
        for shape in shapes(7):
            weights = reckoned_least(shape)
            self.assertEqual(last(begins(shape), least()), [sum(weights), len(weights)] + weights, shape)

    def test_they_are_the_first_that_balance_of_all_that_are_tried(self):
        for left, right in product(range(1, 21), repeat=2):
            tried = [[one, other] for one in range(1, 21) for other in range(1, 21) if left * one == right * other]
            self.assertEqual(last(begins([left, right, 0, 0]), least())[2:], min(tried))
        for first, second, third, fourth in product(range(1, 4), repeat=4):
            shape = [first, second, third, fourth, 0, 0, 0]
            tried = [list(hung) for hung in product(range(1, 19), repeat=3)
                     if not any(reckoned_pulls(shape, hung))]
            self.assertEqual(last(begins(shape), least())[2:], min(tried))

    def test_what_hangs_counts_for_nothing_and_nothing_is_changed(self):
        calls = [begins([1, 2, 0, 3, 1, 0, 0])] + hang_all([4, 5, 6]) + [least(), least()]
        self.assertEqual(last(*calls), [12, 3, 8, 1, 3])
        self.assertEqual(hung_after(calls, 3), [4, 5, 6])
        self.assertEqual(reach_after(calls, 3), [[1, 0], [-2, 3], [-2, -1]])

    def test_the_arms_are_those_given_last(self):
        self.assertEqual(last(begins([1, 1, 0, 1, 1, 0, 0]), arms(0, 1, 2), arms(1, 3, 1), least()),
                         [12, 3, 8, 1, 3])


if __name__ == "__main__":
    unittest.main()
