"""Promise 6: ways."""

import unittest
from itertools import combinations_with_replacement, permutations

from tests.helper import (MOST, ask, arms, begins, chain, hang_all, last, reckoned_least, reckoned_ways, scale, shapes,
                          state, state_of, ways)

# Its least weights are 8, 1 and 3.
SHAPE = [1, 2, 0, 3, 1, 0, 0]
THREE = begins(SHAPE)
# Arms by which the least weights are 1000000, 47500, 2375, 100, 20, 4 and 1.
FAR_SHAPE = [1, 20, 0, 1, 19, 0, 1, 19, 0, 1, 4, 0, 1, 4, 0, 1, 4, 0, 0]
FAR = [1000000, 47500, 2375, 100, 20, 4, 1]


class Ways(unittest.TestCase):

    def test_the_way_in_which_they_balance(self):
        self.assertEqual(last(begins([2, 3, 0, 0]), ways(0, [3, 2])), [1, 2, 3, 2])
        self.assertEqual(last(begins([2, 3, 0, 0]), ways(0, [2, 3])), [1, 2, 3, 2])
        self.assertEqual(last(begins([2, 3, 0, 0]), ways(0, [40, 60])), [1, 2, 60, 40])
        self.assertEqual(last(THREE, ways(0, [8, 1, 3])), [1, 3, 8, 1, 3])

    def test_in_whatever_order_the_weights_are_told(self):
        for weights in permutations([7, 56, 21]):
            self.assertEqual(last(THREE, ways(0, list(weights))), [1, 3, 56, 7, 21])

    def test_like_weights_are_not_told_apart(self):
        self.assertEqual(last(begins([1, 1, 0, 0]), ways(0, [5, 5])), [1, 2, 5, 5])
        self.assertEqual(last(begins([1, 1, 1, 1, 0, 0, 0]), ways(0, [2, 4, 2])), [1, 3, 2, 2, 4])
        shape = [1, 1, 1, 1, 0, 0, 1, 1, 0, 0]
        self.assertEqual(last(begins(shape), ways(0, [3, 3, 3, 3])), [1, 4, 3, 3, 3, 3])
        self.assertEqual(last(begins(shape), ways(1, [3, 3, 3, 3])), [1, 0])
        self.assertEqual(last(begins(chain(7)), ways(0, [1, 1, 2, 4, 8, 16, 32])), [1, 7, 32, 16, 8, 4, 2, 1, 1])

    def test_as_many_before_it_as_there_are_or_more(self):
        told = ask(begins([2, 3, 0, 0]), *[ways(others, [2, 3]) for others in (0, 1, 2, 3, 1000000, MOST)])
        self.assertEqual(told[1:], [[1, 2, 3, 2]] + [[1, 0]] * 5)

    def test_there_is_none(self):
        self.assertEqual(last(begins([1, 1, 0, 0]), ways(0, [1, 2])), [0, 0])
        self.assertEqual(last(begins([2, 3, 0, 0]), ways(0, [4, 4])), [0, 0])
        self.assertEqual(last(begins([2, 3, 0, 0]), ways(0, [1, 1])), [0, 0])
        self.assertEqual(last(begins([2, 3, 0, 0]), ways(1, [1, 1])), [0, 0])
        self.assertEqual(last(begins([2, 3, 0, 0]), ways(MOST, [1, 1])), [0, 0])
        self.assertEqual(last(begins(chain(7, 1, 20)), ways(0, [1000000] * 7)), [0, 0])
        self.assertEqual(last(THREE, ways(0, [8, 1, 4])), [0, 0])

    def test_as_much_together_as_would_balance_but_otherwise_shared_out(self):
        # Together 12, as the least weights are: 8, 1 and 3.
        for weights in ([4, 4, 4], [8, 2, 2], [9, 1, 2], [7, 2, 3], [10, 1, 1]):
            self.assertEqual(last(THREE, ways(0, weights)), [0, 0], weights)
        self.assertEqual(last(THREE, ways(0, [16, 4, 4])), [0, 0])

    def test_the_lightest_or_the_heaviest_as_would_balance_but_not_all(self):
        self.assertEqual(last(THREE, ways(0, [16, 2, 7])), [0, 0])
        self.assertEqual(last(THREE, ways(0, [15, 2, 6])), [0, 0])
        self.assertEqual(last(THREE, ways(0, [16, 3, 6])), [0, 0])

    def test_one_hook_alone(self):
        self.assertEqual(ask(ways(0, [1]), ways(0, [7]), ways(0, [1000000]), ways(1, [7]), ways(MOST, [7])),
                         [[1, 1, 1], [1, 1, 7], [1, 1, 1000000], [1, 0], [1, 0]])
        self.assertEqual(ask(ways(0, []), ways(0, [0]), ways(0, [1000001]), ways(0, [1, 1])), [[-1]] * 4)

    def test_seven_hooks(self):
        least_ones = reckoned_least(chain(7, 2, 3))
        for turned in range(7):
            weights = [4 * weight for weight in least_ones[turned:] + least_ones[:turned]]
            self.assertEqual(last(begins(chain(7, 2, 3)), ways(0, weights)),
                             [1, 7] + [4 * weight for weight in least_ones])
        self.assertEqual(last(begins(chain(7, 2, 3)), ways(0, least_ones[:6] + [least_ones[6] + 1])), [0, 0])

    def test_weights_of_1_and_1000000(self):
        self.assertEqual(ask(begins(FAR_SHAPE), ways(0, FAR), ways(0, FAR[::-1]), ways(1, FAR))[1:],
                         [[1, 7] + FAR, [1, 7] + FAR, [1, 0]])
        self.assertEqual(last(begins(chain(2)), ways(0, [1000000, 1000000])), [1, 2, 1000000, 1000000])
        self.assertEqual(last(begins(chain(2)), ways(0, [1, 1])), [1, 2, 1, 1])
        self.assertEqual(last(begins(chain(2)), ways(0, [1, 1000000])), [0, 0])

    def test_not_as_many_as_there_are_hooks(self):
        self.assertEqual(ask(THREE, ways(0, []), ways(0, [8]), ways(0, [8, 1]), ways(0, [8, 1, 3, 1]),
                             ways(0, [1] * 60), ways(0, [8, 1, 3] * 2))[1:], [[-1]] * 6)
        self.assertEqual(ask(begins(chain(7)), ways(0, [1] * 6), ways(0, [1] * 8))[1:], [[-1]] * 2)
        self.assertEqual(ask(THREE, ways(MOST, []), ways(5, [8, 1]))[1:], [[-1]] * 2)

    def test_a_weight_that_is_not_1_to_1000000(self):
        for wrong in (0, 1000001, 1000002, MOST):
            for place in range(3):
                weights = [8, 1, 3]
                weights[place] = wrong
                self.assertEqual(ask(THREE, ways(0, weights), ways(1, weights), ways(MOST, weights))[1:], [[-1]] * 3)
        self.assertEqual(last(begins([1, 1, 0, 0]), ways(0, [0, 0])), [-1])
        self.assertEqual(last(begins([1, 1, 0, 0]), ways(0, [1000001, 1000001])), [-1])
        self.assertEqual(last(begins([1, 20, 0, 0]), ways(0, [50001, 1000020])), [-1])

    def test_what_hangs_counts_for_nothing(self):
        for hung in ([8, 1, 3], [0, 0, 0], [0, 5, 0], [1000000, 1, 1]):
            self.assertEqual(ask(THREE, *hang_all(hung), ways(0, [2, 6, 16]), ways(0, [1, 1, 1]))[-2:],
                             [[1, 3, 16, 2, 6], [0, 0]])

    def test_the_arms_are_those_given_last(self):
        self.assertEqual(ask(begins([1, 1, 0, 0]), arms(0, 2, 3), ways(0, [4, 6]), ways(0, [5, 5]))[-2:],
                         [[1, 2, 6, 4], [0, 0]])

    def test_hung_in_every_order(self):
        for shape in ([1, 1, 0, 0], [2, 4, 0, 0], [1, 2, 0, 1, 1, 0, 0], [2, 1, 1, 2, 0, 0, 0], [3, 3, 0, 2, 2, 0, 0]):
            hooks = shape.count(0)
            told = [ways(0, list(weights)) for weights in combinations_with_replacement(range(1, 9), hooks)]
            for place in range(0, len(told), 79):
                calls = told[place:place + 79]
                for call, answer in zip(calls, ask(begins(shape), *calls)[1:]):
                    self.assertEqual(answer, reckoned_ways(shape, 0, call[3:]), (shape, call))

    def test_every_form_of_up_to_five_hooks_in_every_order(self):
        for shape in shapes(5):
            weights = [2 * weight for weight in sorted(reckoned_least(shape))]
            for others in (0, 1):
                self.assertEqual(last(begins(shape), ways(others, weights)), reckoned_ways(shape, others, weights))
            weights[-1] += 1
            self.assertEqual(last(begins(shape), ways(0, weights)), reckoned_ways(shape, 0, weights))

    def test_every_form_of_up_to_seven_hooks(self):
        for shape in shapes(7):
            least_ones = reckoned_least(shape)
            if max(least_ones) <= 1000000:
                told = ask(begins(shape), ways(0, sorted(least_ones)), ways(1, least_ones), ways(0, least_ones[:-1]))
                self.assertEqual(told[1:], [[1, len(least_ones)] + least_ones, [1, 0], [-1]], shape)

    def test_nothing_is_changed(self):
        for hung in ([5, 6, 8], [5, 0, 8], [8, 1, 3]):
            calls = (ways(0, [16, 2, 6]), ways(1, [16, 2, 6]), ways(0, [1, 1, 1]), ways(0, [1, 1]), ways(0, [0, 1, 1]))
            for call in calls:
                told = ask(THREE, *hang_all(hung), call, state(), call)
                self.assertEqual(told[-2], state_of(SHAPE, hung))
                self.assertEqual(told[-1], told[-3])
        self.assertEqual(ask(THREE, scale(2), ways(0, [8, 1, 3]), state())[-1], state_of(SHAPE, [16, 2, 6]))


if __name__ == "__main__":
    unittest.main()
