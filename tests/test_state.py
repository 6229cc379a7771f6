"""The call state, as 'The calls' tells it, and by it what each other call changes and what it doesn't."""

import unittest

from tests.helper import (MOST, ask, arms, begins, chain, hang, hang_all, hooks_of, last, least, mend, missing, pulls,
                          scale, shapes, state, state_of, tree_of, up, wants, ways)

# Its least weights are 8, 1 and 3.
SHAPE = [1, 2, 0, 3, 1, 0, 0]
THREE = begins(SHAPE)


class State(unittest.TestCase):

    def test_at_the_beginning(self):
        self.assertEqual(ask(state()), [[0, 1, 0, 1, 0]])

    def test_rods_then_the_mobiles_numbers_then_what_hangs(self):
        self.assertEqual(last(begins([4, 5, 0, 0]), state()), [1, 4, 4, 5, 0, 0, 2, 0, 0])
        self.assertEqual(last(THREE, *hang_all([7, 8, 9]), state()), [2, 7, 1, 2, 0, 3, 1, 0, 0, 3, 7, 8, 9])
        self.assertEqual(last(begins([1, 2, 3, 4, 0, 0, 5, 6, 0, 0]), hang(2, 1000000), state()),
                         [3, 10, 1, 2, 3, 4, 0, 0, 5, 6, 0, 0, 4, 0, 0, 1000000, 0])

    def test_one_hook_alone(self):
        self.assertEqual(ask(hang(0, 5), state(), hang(0, 1000001), state(), hang(1, 2), state(), hang(0, 0), state()),
                         [[5], [0, 1, 0, 1, 5], [-1], [0, 1, 0, 1, 5], [-2], [0, 1, 0, 1, 5], [0], [0, 1, 0, 1, 0]])
        self.assertEqual(ask(hang(0, 5), begins([0]), state(), scale(3), state(), scale(0), scale(1000001), state()),
                         [[5], [1], [0, 1, 0, 1, 0], [3], [0, 1, 0, 1, 3], [-1], [-1], [0, 1, 0, 1, 3]])
        self.assertEqual(ask(hang(0, 5), begins([]), state(), begins([0, 0]), state(), begins(chain(8)), state()),
                         [[5]] + [[-1], [0, 1, 0, 1, 5]] * 2 + [[-5], [0, 1, 0, 1, 5]])
        self.assertEqual(ask(hang(0, 5), arms(0, 1, 1), state(), least(), pulls(), state())[2::3],
                         [[0, 1, 0, 1, 5]] * 2)
        self.assertEqual(ask(THREE, scale(2), begins([0]), state(), hang(0, 4), state()),
                         [[3], [24], [1], [0, 1, 0, 1, 0], [4], [0, 1, 0, 1, 4]])

    def test_every_form_up_to_seven_hooks(self):
        hung = [3, 1000000, 0, 71, 5, 999, 12]
        for shape in shapes(7):
            weights = hung[:hooks_of(tree_of(shape))]
            told = ask(begins(shape), state(), *hang_all(weights), state())
            self.assertEqual(told[1], state_of(shape, [0] * len(weights)))
            self.assertEqual(told[-1], state_of(shape, weights))

    def test_every_form_with_each_rods_arms_given_anew(self):
        for shape in shapes(7):
            hooks = hooks_of(tree_of(shape))
            calls = [begins(shape), hang(0, 6)]
            for rod in range(hooks - 1):
                calls.append(arms(rod, 20 - rod, rod + 1))
            numbered = list(shape)
            rod = place = 0
            while place < len(numbered):
                if numbered[place] == 0:
                    place += 1
                else:
                    numbered[place:place + 2] = [20 - rod, rod + 1]
                    place += 2
                    rod += 1
            self.assertEqual(last(*calls, state()), state_of(numbered, [6] + [0] * (hooks - 1)), shape)

    def test_behind_begins(self):
        calls = [THREE, arms(0, 5, 5), *hang_all([7, 8, 9])]
        self.assertEqual(last(*calls, begins(SHAPE), state()), state_of(SHAPE, [0, 0, 0]))
        self.assertEqual(last(*calls, begins([9, 8, 0, 0]), state()), state_of([9, 8, 0, 0], [0, 0]))
        self.assertEqual(last(*calls, begins(chain(7)), state()), state_of(chain(7), [0] * 7))

    def test_behind_hang(self):
        self.assertEqual(ask(THREE, hang(2, 4), state(), hang(0, 5), state(), hang(2, 0), state())[2::2],
                         [state_of(SHAPE, [0, 0, 4]), state_of(SHAPE, [5, 0, 4]), state_of(SHAPE, [5, 0, 0])])

    def test_behind_arms(self):
        self.assertEqual(ask(THREE, *hang_all([7, 8, 9]), arms(1, 20, 4), state(), arms(0, 6, 1), state())[5::2],
                         [state_of([1, 2, 0, 20, 4, 0, 0], [7, 8, 9]), state_of([6, 1, 0, 20, 4, 0, 0], [7, 8, 9])])

    def test_arms_are_told_as_they_were_given(self):
        self.assertEqual(ask(begins([4, 6, 0, 0]), state(), arms(0, 20, 10), state())[1::2],
                         [state_of([4, 6, 0, 0], [0, 0]), state_of([20, 10, 0, 0], [0, 0])])

    def test_behind_scale_and_mend(self):
        self.assertEqual(last(THREE, hang(1, 9), scale(3), state()), state_of(SHAPE, [24, 3, 9]))
        self.assertEqual(last(THREE, hang(1, 9), mend(), state()), state_of(SHAPE, [72, 9, 27]))

    def test_calls_that_change_nothing(self):
        for hung in ([7, 8, 9], [8, 1, 3], [0, 1, 3], [0, 0, 0]):
            for call in (pulls(), least(), up(), wants(), ways(0, [8, 1, 3]), ways(1, [8, 1, 3]), ways(0, [1, 1, 1]),
                         missing(0), missing(1), missing(2), state()):
                told = ask(THREE, arms(1, 6, 2), *hang_all(hung), state(), call, state())
                self.assertEqual(told[5], state_of([1, 2, 0, 6, 2, 0, 0], hung))
                self.assertEqual(told[7], told[5], call)

    def test_behind_a_refusal_all_is_as_it_was(self):
        refused = [(begins([]), -1), (begins([0, 0]), -1), (begins([1, 1, 0]), -1), (begins([21, 1, 0, 0]), -1),
                   (begins([1, 21, 0, 0]), -1), (begins(chain(8)), -5), (begins([0] * 60), -1), (begins([MOST]), -1),
                   (hang(3, 1), -2), (hang(0, 1000001), -1), (hang(2, MOST), -1), (hang(MOST, 0), -2),
                   (arms(2, 1, 1), -2), (arms(0, 0, 1), -1), (arms(1, 5, 21), -1), (arms(0, 21, 5), -1),
                   (arms(MOST, 1, 1), -2), (scale(0), -1), (scale(MOST), -1), (scale(1000001), -1),
                   (up(), -6), (mend(), -1), (wants(), -6), (ways(0, []), -1), (ways(0, [1, 1]), -1),
                   (ways(0, [1, 1, 0]), -1), (ways(0, [1, 1000001, 1]), -1), (missing(3), -2), (missing(0), -4),
                   (missing(1), -6), (missing(2), -6), (missing(MOST), -2)]
        # By these arms the least weights are 16, 3 and 1.
        calls = [THREE, arms(0, 1, 4), arms(1, 1, 3)] + hang_all([8, 0, 1000000])
        for call, refusal in refused:
            self.assertEqual(ask(*calls, call, state())[-2:],
                             [[refusal], state_of([1, 4, 0, 1, 3, 0, 0], [8, 0, 1000000])], call)

    def test_behind_refusals_one_behind_another(self):
        wrong = [hang(7, 1), arms(6, 1, 1), scale(0), wants(), ways(0, [1] * 6), missing(7), begins(chain(8)), mend(),
                 begins([1])]
        told = ask(begins(chain(7)), hang(3, 1000000), *wrong, state(), *reversed(wrong), state())
        hung = [0, 0, 0, 1000000, 0, 0, 0]
        self.assertEqual(told[2:], [[-2], [-2], [-1], [-6], [-1], [-2], [-5], [-1], [-1], state_of(chain(7), hung),
                                    [-1], [-1], [-5], [-2], [-1], [-6], [-1], [-2], [-2], state_of(chain(7), hung)])

    def test_what_was_answered_is_not_changed_behind_it(self):
        told = ask(THREE, mend(), scale(2), state(), hang(0, 5), arms(0, 9, 9), state(), mend(), hang(1, 77), least(),
                   hang(2, 0), state())
        self.assertEqual(told[1], [3, 3, 8, 1, 3])
        self.assertEqual(told[3], state_of(SHAPE, [16, 2, 6]))
        self.assertEqual(told[6], state_of([9, 9, 0, 3, 1, 0, 0], [5, 2, 6]))
        self.assertEqual(told[7], [1, 3, 8, 2, 6])
        self.assertEqual(told[9], [8, 3, 4, 1, 3])
        self.assertEqual(told[11], state_of([9, 9, 0, 3, 1, 0, 0], [8, 77, 0]))

    def test_what_ways_and_begins_were_handed_is_not_hung_or_kept(self):
        self.assertEqual(ask(begins([1, 1, 0, 0]), ways(0, [3, 3]), hang(0, 4), ways(0, [3, 3]), state()),
                         [[2], [1, 2, 3, 3], [4], [1, 2, 3, 3], state_of([1, 1, 0, 0], [4, 0])])


if __name__ == "__main__":
    unittest.main()
