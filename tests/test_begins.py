"""Promise 1: begins."""

import unittest

from tests.helper import (MOST, ask, arms, begins, chain, hang, hang_all, hooks_of, hung_after, last, least, pulls,
                          reach_after, scale, shapes, tree_of)

HUNG = [begins([1, 2, 0, 3, 4, 0, 0]), arms(1, 5, 6), hang(0, 7), hang(1, 8), hang(2, 9)]


class Begins(unittest.TestCase):

    def test_tells_how_many_hooks_there_are(self):
        self.assertEqual(ask(begins([0])), [[1]])
        self.assertEqual(ask(begins([1, 1, 0, 0])), [[2]])
        self.assertEqual(ask(begins([1, 2, 0, 3, 4, 0, 0])), [[3]])
        self.assertEqual(ask(begins([1, 2, 3, 4, 0, 0, 5, 6, 0, 0])), [[4]])

    def test_every_form_up_to_seven_hooks(self):
        for shape in shapes(7):
            self.assertEqual(ask(begins(shape)), [[hooks_of(tree_of(shape))]], shape)

    def test_a_line_begins_with_one_hook_and_nothing_hung(self):
        self.assertEqual(ask(pulls()), [[1, 0]])
        self.assertEqual(ask(least()), [[1, 1, 1]])
        self.assertEqual(ask(hang(0, 0)), [[0]])
        self.assertEqual(ask(hang(0, 5)), [[5]])
        self.assertEqual(ask(hang(1, 5)), [[-2]])
        self.assertEqual(ask(arms(0, 1, 1)), [[-2]])

    def test_seven_hooks_are_taken_and_eight_are_not(self):
        self.assertEqual(ask(begins(chain(7))), [[7]])
        self.assertEqual(ask(begins(chain(8))), [[-5]])
        self.assertEqual(ask(begins([1, 1] * 6 + [0] * 7)), [[7]])
        self.assertEqual(ask(begins([1, 1] * 7 + [0] * 8)), [[-5]])
        self.assertEqual(ask(begins(chain(20))), [[-5]])

    def test_arms_of_1_and_20_are_taken(self):
        self.assertEqual(ask(begins([1, 20, 0, 0])), [[2]])
        self.assertEqual(ask(begins([20, 1, 0, 0])), [[2]])

    def test_arms_that_are_not_1_to_20(self):
        for wrong in (21, 22, 1000000, MOST):
            self.assertEqual(ask(begins([wrong, 1, 0, 0])), [[-1]])
            self.assertEqual(ask(begins([1, wrong, 0, 0])), [[-1]])
            self.assertEqual(ask(begins([1, 1, 0, wrong, 1, 0, 0])), [[-1]])
            self.assertEqual(ask(begins([1, 1, 0, 1, wrong, 0, 0])), [[-1]])
        self.assertEqual(ask(begins([1, 0, 0, 0])), [[-1]])
        self.assertEqual(ask(begins([1, 1, 0, 1, 0, 0, 0])), [[-1]])

    def test_numbers_that_are_none_or_too_few_or_left_over(self):
        for wrong in ([], [1], [1, 1], [1, 1, 0], [1, 1, 0, 1], [1, 1, 0, 1, 1, 0],
                      [0, 0], [0, 1], [0, 1, 1, 0, 0], [1, 1, 0, 0, 0], [1, 1, 0, 0, 1, 1, 0, 0]):
            self.assertEqual(ask(begins(wrong)), [[-1]], wrong)

    def test_every_number_left_out_or_put_behind(self):
        for shape in shapes(5):
            for length in range(len(shape)):
                self.assertEqual(ask(begins(shape[:length])), [[-1]], shape[:length])
            for more in (0, 1, 20, 21):
                self.assertEqual(ask(begins(shape + [more])), [[-1]], shape + [more])

    def test_a_list_of_sixty_numbers(self):
        self.assertEqual(ask(begins([0] * 60)), [[-1]])
        self.assertEqual(ask(begins([1] * 60)), [[-1]])
        self.assertEqual(ask(begins([1, 1] * 30)), [[-1]])
        self.assertEqual(ask(begins(chain(20) + [0, 0])), [[-1]])
        self.assertEqual(ask(begins([1, 1, 0] * 20)), [[-1]])

    def test_wrong_numbers_are_told_ahead_of_too_many_hooks(self):
        self.assertEqual(ask(begins(chain(8) + [0])), [[-1]])
        self.assertEqual(ask(begins(chain(8)[:-1])), [[-1]])
        self.assertEqual(ask(begins([1, 1, 0] * 6 + [21, 1, 0, 0])), [[-1]])
        self.assertEqual(ask(begins([1, 1, 0] * 6 + [1, 21, 0, 0])), [[-1]])
        self.assertEqual(ask(begins([0] * 8)), [[-1]])

    def test_nothing_hangs_behind_it(self):
        self.assertEqual(hung_after(HUNG, 3), [7, 8, 9])
        self.assertEqual(hung_after(HUNG + [begins([1, 2, 0, 3, 4, 0, 0])], 3), [0, 0, 0])
        self.assertEqual(hung_after(HUNG + [begins([1, 1, 0, 0])], 2), [0, 0])
        self.assertEqual(hung_after(HUNG + [begins(chain(7))], 7), [0] * 7)
        self.assertEqual(last(*HUNG, begins([0]), hang(0, 4)), [4])
        self.assertEqual(last(begins(chain(5)), scale(3), begins(chain(5)), pulls()), [1, 4, 0, 0, 0, 0])

    def test_it_is_that_mobile_from_now_on(self):
        behind = HUNG + [begins([9, 8, 7, 6, 0, 0, 0])]
        self.assertEqual(reach_after(behind, 3), [[9, 7], [9, -6], [-8, 0]])
        self.assertEqual(last(*HUNG, begins([0]), hang(1, 4)), [-2])
        self.assertEqual(last(*HUNG, begins([0]), arms(0, 1, 1)), [-2])
        self.assertEqual(last(*HUNG, begins([1, 1, 0, 0]), arms(1, 1, 1)), [-2])
        self.assertEqual(last(begins([0]), begins(chain(7)), hang(6, 4)), [4])

    def test_arms_given_before_are_gone(self):
        self.assertEqual(reach_after(HUNG, 3), [[1, 0], [-2, 5], [-2, -6]])
        behind = HUNG + [begins([1, 2, 0, 3, 4, 0, 0])]
        self.assertEqual(reach_after(behind, 3), [[1, 0], [-2, 3], [-2, -4]])

    def test_all_is_as_it_was_behind_a_refusal(self):
        for wrong in ([], [0, 0], [1, 1, 0], [1, 1, 0, 21, 1, 0, 0], [2, 2, 0, 0, 0], chain(8), [0] * 60):
            behind = HUNG + [begins(wrong)]
            self.assertLess(last(*behind)[0], 0)
            self.assertEqual(hung_after(behind, 3), [7, 8, 9])
            self.assertEqual(reach_after(behind, 3), [[1, 0], [-2, 5], [-2, -6]])
            self.assertEqual(last(*behind, hang(3, 1)), [-2])
            self.assertEqual(last(*behind, arms(2, 1, 1)), [-2])

    def test_hooks_and_rods_are_numbered_in_the_order_in_which_they_are_told(self):
        shape = [1, 2, 3, 4, 0, 5, 6, 0, 0, 7, 8, 9, 10, 0, 0, 0]
        calls = [begins(shape)] + hang_all([0] * 6)
        self.assertEqual(reach_after(calls, 6), [
            [1, 3, 0, 0, 0],
            [1, -4, 5, 0, 0],
            [1, -4, -6, 0, 0],
            [-2, 0, 0, 7, 9],
            [-2, 0, 0, 7, -10],
            [-2, 0, 0, -8, 0],
        ])


if __name__ == "__main__":
    unittest.main()
