"""Promise 5: wants."""

import unittest

from tests.helper import (ask, arms, begins, chain, hang, hang_all, hooks_of, last, mend, pulls, reckoned_wants,
                          scale, shapes, state, state_of, tree_of, wants)

SHAPE = [1, 2, 0, 3, 1, 0, 0]
THREE = begins(SHAPE)


class Wants(unittest.TestCase):

    def test_one_rod(self):
        self.assertEqual(last(begins([1, 1, 0, 0]), *hang_all([3, 2]), wants()), [1, 2, 2, 3])
        self.assertEqual(last(begins([1, 1, 0, 0]), *hang_all([2, 3]), wants()), [1, 2, 3, 2])
        self.assertEqual(last(begins([1, 1, 0, 0]), *hang_all([1, 20]), wants()), [1, 2, 20, 1])

    def test_the_shortest_arms(self):
        self.assertEqual(last(begins([9, 7, 0, 0]), *hang_all([6, 4]), wants()), [1, 2, 2, 3])
        self.assertEqual(last(begins([9, 7, 0, 0]), *hang_all([5, 5]), wants()), [1, 2, 1, 1])
        self.assertEqual(last(begins([9, 7, 0, 0]), *hang_all([1000000, 1000000]), wants()), [1, 2, 1, 1])
        self.assertEqual(last(begins([9, 7, 0, 0]), *hang_all([12, 4]), wants()), [1, 2, 1, 3])

    def test_of_each_rod_in_their_order(self):
        self.assertEqual(last(THREE, *hang_all([8, 1, 3]), wants()), [2, 4, 1, 2, 3, 1])
        self.assertEqual(last(THREE, *hang_all([5, 6, 8]), wants()), [2, 4, 14, 5, 4, 3])
        shape = [1, 1, 1, 1, 0, 0, 1, 1, 0, 0]
        self.assertEqual(last(begins(shape), *hang_all([1, 2, 3, 4]), wants()), [3, 6, 7, 3, 2, 1, 4, 3])
        self.assertEqual(last(begins(chain(4)), *hang_all([1, 2, 3, 4]), wants()), [3, 6, 9, 1, 7, 2, 4, 3])
        self.assertEqual(last(begins([1, 1] * 3 + [0] * 4), *hang_all([1, 2, 3, 4]), wants()),
                         [3, 6, 2, 3, 1, 1, 2, 1])

    def test_arms_above_20(self):
        self.assertEqual(last(begins([1, 1, 0, 0]), *hang_all([1, 21]), wants()), [1, 2, 21, 1])
        self.assertEqual(last(begins([1, 1, 0, 0]), *hang_all([1000000, 1]), wants()), [1, 2, 1, 1000000])
        self.assertEqual(last(begins([1, 1, 0, 0]), *hang_all([999999, 1000000]), wants()), [1, 2, 1000000, 999999])
        self.assertEqual(last(begins(chain(7)), *hang_all([1] + [1000000] * 6), wants()),
                         [6, 12, 6000000, 1, 5, 1, 4, 1, 3, 1, 2, 1, 1, 1])

    def test_one_hook_alone(self):
        self.assertEqual(ask(wants(), hang(0, 5), wants(), hang(0, 0), wants()), [[-6], [5], [0, 0], [0], [-6]])
        self.assertEqual(ask(THREE, begins([0]), wants(), hang(0, 1000000), wants()),
                         [[3], [1], [-6], [1000000], [0, 0]])

    def test_the_arms_that_are_count_for_nothing(self):
        for left, right in ((1, 1), (20, 1), (3, 2), (2, 3)):
            self.assertEqual(last(begins([left, right, 0, 0]), *hang_all([9, 6]), wants()), [1, 2, 2, 3])
        self.assertEqual(ask(THREE, *hang_all([5, 6, 8]), arms(0, 9, 9), arms(1, 7, 2), wants())[-1],
                         [2, 4, 14, 5, 4, 3])

    def test_it_is_level_with_those_arms(self):
        self.assertEqual(ask(begins([1, 1, 0, 5, 5, 0, 0]), *hang_all([3, 2, 4]), pulls(), wants(), arms(0, 2, 1),
                             arms(1, 2, 1), pulls())[4:],
                         [[0, 2, -3, -10], [2, 4, 2, 1, 2, 1], [0], [0], [1, 2, 0, 0]])

    def test_nothing_hung_at_some_hook(self):
        for hooks in range(1, 8):
            for hook in range(hooks):
                told = ask(begins(chain(hooks)), *hang_all([4] * hooks), wants(), hang(hook, 0), wants())
                self.assertGreaterEqual(told[-3][0], 0)
                self.assertEqual(told[-1], [-6])

    def test_nothing_hung_at_several_hooks_and_at_all(self):
        self.assertEqual(last(THREE, hang(0, 8), wants()), [-6])
        self.assertEqual(last(THREE, hang(2, 3), wants()), [-6])
        self.assertEqual(last(THREE, wants()), [-6])
        self.assertEqual(last(begins(chain(7)), wants()), [-6])

    def test_what_scale_and_mend_hung(self):
        self.assertEqual(last(begins([4, 6, 2, 2, 0, 0, 0]), scale(5), wants()), [2, 4, 2, 3, 1, 1])
        self.assertEqual(last(begins([4, 6, 2, 2, 0, 0, 0]), mend(), wants()), [2, 4, 2, 3, 1, 1])

    def test_every_form_up_to_seven_hooks(self):
        for hung in ([3, 1000000, 8, 71, 5, 999, 12], [6, 4, 2, 8, 10, 30, 60], [1] * 7):
            for shape in shapes(7):
                weights = hung[:hooks_of(tree_of(shape))]
                self.assertEqual(last(begins(shape), *hang_all(weights), wants()), reckoned_wants(shape, weights),
                                 (shape, weights))

    def test_nothing_is_changed(self):
        for hung in ([5, 6, 8], [5, 0, 8], [0, 0, 0]):
            told = ask(THREE, *hang_all(hung), wants(), state(), wants(), state())
            self.assertEqual(told[5], state_of(SHAPE, hung))
            self.assertEqual(told[7], state_of(SHAPE, hung))
            self.assertEqual(told[6], told[4])


if __name__ == "__main__":
    unittest.main()
