"""The call pulls, as 'The calls' and 'A mobile' tell it."""

import unittest

from tests.helper import (ask, arms, begins, chain, hang, hang_all, hooks_of, hung_after, last, pulls,
                          reach_after, reckoned_least, reckoned_pulls, scale, shapes, tree_of)


class Pulls(unittest.TestCase):

    def test_tells_each_rods_left_pull_less_its_right_one(self):
        calls = [begins([1, 2, 0, 3, 4, 0, 0])] + hang_all([50, 6, 7])
        self.assertEqual(last(*calls, pulls()), [0, 2, 50 - 2 * 13, 3 * 6 - 4 * 7])

    def test_a_rod_pulls_with_all_that_hangs_at_an_end(self):
        calls = [begins([2, 3, 4, 5, 0, 0, 6, 7, 0, 0])] + hang_all([1, 10, 100, 1000])
        self.assertEqual(last(*calls, pulls()), [0, 3, 2 * 11 - 3 * 1100, 4 - 50, 600 - 7000])

    def test_tells_1_if_each_rod_is_level(self):
        self.assertEqual(last(begins([2, 3, 0, 0]), *hang_all([3, 2]), pulls()), [1, 1, 0])
        self.assertEqual(last(begins([1, 2, 0, 3, 1, 0, 0]), *hang_all([8, 1, 3]), pulls()), [1, 2, 0, 0])

    def test_tells_0_if_one_rod_is_not_level(self):
        self.assertEqual(last(begins([2, 3, 0, 0]), *hang_all([3, 3]), pulls()), [0, 1, -3])
        self.assertEqual(last(begins([1, 2, 0, 3, 1, 0, 0]), *hang_all([7, 1, 3]), pulls()), [0, 2, -1, 0])
        self.assertEqual(last(begins([1, 2, 0, 3, 1, 0, 0]), *hang_all([8, 2, 2]), pulls()), [0, 2, 0, 4])

    def test_pulls_that_make_up_for_each_other_are_not_level(self):
        shape = [1, 1, 1, 1, 0, 0, 1, 1, 0, 0]
        self.assertEqual(last(begins(shape), *hang_all([2, 1, 1, 2]), pulls()), [0, 3, 0, 1, -1])

    def test_nothing_hung_is_level(self):
        self.assertEqual(ask(begins([20, 1, 0, 0]), pulls()), [[2], [1, 1, 0]])
        self.assertEqual(ask(begins(chain(7)), pulls()), [[7], [1, 6, 0, 0, 0, 0, 0, 0]])

    def test_something_hung_at_one_side_alone_is_not_level(self):
        self.assertEqual(ask(begins([20, 1, 0, 0]), hang(0, 3), pulls()), [[2], [3], [0, 1, 60]])
        self.assertEqual(ask(begins([20, 1, 0, 0]), hang(1, 3), pulls()), [[2], [3], [0, 1, -3]])

    def test_one_hook_alone_has_no_rod_and_is_level(self):
        self.assertEqual(ask(pulls(), hang(0, 5), pulls()), [[1, 0], [5], [1, 0]])

    def test_the_greatest_pulls(self):
        calls = [begins([20, 1] * 6 + [0] * 7)] + hang_all([1000000] * 6 + [0])
        self.assertEqual(last(*calls, pulls()),
                         [0, 6, 120000000, 99000000, 79000000, 59000000, 39000000, 19000000])
        calls = [begins(chain(7, 1, 20))] + hang_all([0] + [1000000] * 6)
        self.assertEqual(last(*calls, pulls()),
                         [0, 6, -120000000, -99000000, -79000000, -59000000, -39000000, -19000000])

    def test_every_form_up_to_seven_hooks(self):
        hung = [3, 1000000, 0, 71, 5, 999, 12]
        for shape in shapes(7):
            weights = hung[:hooks_of(tree_of(shape))]
            rest = reckoned_pulls(shape, weights)
            told = last(begins(shape), *hang_all(weights), pulls())
            self.assertEqual(told, [1 if set(rest) <= {0} else 0, len(rest)] + rest, shape)

    def test_every_form_is_level_with_its_least_weights(self):
        for shape in shapes(7):
            weights = reckoned_least(shape)
            if max(weights) <= 1000000:
                rods = len(weights) - 1
                self.assertEqual(last(begins(shape), *hang_all(weights), pulls()), [1, rods] + [0] * rods, shape)

    def test_the_arms_are_those_given_last(self):
        self.assertEqual(ask(begins([1, 1, 0, 0]), hang(0, 4), hang(1, 3), arms(0, 3, 4), pulls()),
                         [[2], [4], [7], [0], [1, 1, 0]])

    def test_it_changes_nothing(self):
        calls = [begins([1, 2, 0, 3, 4, 0, 0])] + hang_all([4, 5, 6]) + [pulls(), pulls()]
        self.assertEqual(hung_after(calls, 3), [4, 5, 6])
        self.assertEqual(reach_after(calls, 3), [[1, 0], [-2, 3], [-2, -4]])
        self.assertEqual(ask(begins([1, 1, 0, 0]), scale(2), pulls(), pulls()), [[2], [4], [1, 1, 0], [1, 1, 0]])


if __name__ == "__main__":
    unittest.main()
