"""Whole lines: all twelve calls in any order, against the second reckoning."""

import unittest

from tests.helper import (MOST, ask, begins, chain, reckoned_least, reckoned_mend, reckoned_missing, reckoned_pulls,
                          reckoned_up, reckoned_wants, reckoned_ways, shapes, state_of)

LINES = 150
SHAPES = shapes(6)


class Dice:
    """Numbers that look thrown but are the same each time."""

    def __init__(self, seed):
        self.seed = seed

    def below(self, bound):
        self.seed = (self.seed * 6364136223846793005 + 1442695040888963407) % 2 ** 64
        return (self.seed >> 33) % bound

    def one_of(self, things):
        return things[self.below(len(things))]


class Reckoned:
    """A mobile that is told by its numbers and what hangs, and answers by the second reckoning."""

    def __init__(self):
        self.shape = [0]
        self.hung = [0]

    def answer(self, call):
        told = [self.begins, self.hang, self.arms, self.pulls, self.least, self.scale, self.up, self.mend,
                self.wants, self.ways, self.missing, self.state]
        return told[call[0]](*call[1:])

    def begins(self, length, *shape):
        if not self.is_one_mobile(list(shape)):
            return [-1]
        if shape.count(0) > 7:
            return [-5]
        self.shape = list(shape)
        self.hung = [0] * shape.count(0)
        return [len(self.hung)]

    def is_one_mobile(self, shape):
        def behind(place):
            if shape[place] == 0:
                return place + 1
            if not (1 <= shape[place] <= 20 and 1 <= shape[place + 1] <= 20):
                raise IndexError
            return behind(behind(place + 2))
        try:
            return behind(0) == len(shape)
        except IndexError:
            return False

    def hang(self, hook, weight):
        if hook >= len(self.hung):
            return [-2]
        if weight > 1000000:
            return [-1]
        self.hung[hook] = weight
        return [sum(self.hung)]

    def arms(self, rod, left, right):
        places = []
        place = 0
        while place < len(self.shape):
            if self.shape[place] == 0:
                place += 1
            else:
                places.append(place)
                place += 2
        if rod >= len(places):
            return [-2]
        if not (1 <= left <= 20 and 1 <= right <= 20):
            return [-1]
        self.shape[places[rod]] = left
        self.shape[places[rod] + 1] = right
        return [0]

    def pulls(self):
        rest = reckoned_pulls(self.shape, self.hung)
        return [0 if any(rest) else 1, len(rest)] + rest

    def least(self):
        weights = reckoned_least(self.shape)
        return [sum(weights), len(weights)] + weights

    def scale(self, times):
        weights = [times * one for one in reckoned_least(self.shape)]
        if not 1 <= max(weights) <= 1000000:
            return [-1]
        self.hung = weights
        return [sum(weights)]

    def up(self):
        return reckoned_up(self.shape, self.hung)

    def mend(self):
        told = reckoned_mend(self.shape, self.hung)
        if told != [-1]:
            self.hung = told[2:]
        return told

    def wants(self):
        return reckoned_wants(self.shape, self.hung)

    def ways(self, others, length, *weights):
        return reckoned_ways(self.shape, others, list(weights))

    def missing(self, hook):
        return reckoned_missing(self.shape, hook, self.hung)

    def state(self):
        return state_of(self.shape, self.hung)


def thrown_shape(dice):
    shape = list(dice.one_of(SHAPES)) if dice.below(8) else chain(7, 1, 1 + dice.below(3))
    if dice.below(4) == 0:
        shape = [0 if number == 0 else 1 + number % 3 for number in shape]
    if dice.below(8) == 0:
        shape[dice.below(len(shape))] = dice.one_of([0, 1, 21, MOST])
    if dice.below(16) == 0:
        shape = shape[:-1] if dice.below(2) else chain(8)
    return begins(shape)


def thrown_weight(dice, reckoned, hook):
    """Mostly so many times the least one, so that weights often balance."""
    if hook < len(reckoned.hung) and dice.below(6):
        return min((1 + dice.below(3)) * reckoned_least(reckoned.shape)[hook], 1000001)
    return dice.one_of([0, 0, 1, 2, 12, 999999, 1000000, 1000001, MOST])


def thrown_ways(dice, reckoned):
    least = reckoned_least(reckoned.shape)
    weights = [(1 + dice.below(2)) * least[0]] * len(least) if dice.below(8) == 0 else [2 * one for one in least]
    weights = [min(one, MOST) for one in weights]
    if dice.below(4) == 0:
        weights[dice.below(len(weights))] = dice.one_of([0, 1, 2, 1000000, 1000001])
    if dice.below(8) == 0:
        weights = weights[:-1] if dice.below(2) else weights + [1]
    turned = dice.below(len(weights) + 1)
    weights = weights[turned:] + weights[:turned]
    return [9, dice.one_of([0, 0, 0, 1, MOST]), len(weights)] + weights


def thrown_call(dice, reckoned):
    hooks = len(reckoned.hung)
    number = dice.one_of([0, 1, 1, 1, 1, 1, 1, 2, 3, 4, 5, 6, 6, 7, 8, 9, 10, 10, 10, 11])
    if number == 0:
        return thrown_shape(dice)
    if number == 1:
        hook = dice.below(hooks + 1) if dice.below(9) == 0 else dice.below(hooks)
        return [1, hook, thrown_weight(dice, reckoned, hook)]
    if number == 2:
        lengths = [0, 21] + [1, 2, 3, 4] * 4
        return [2, dice.below(hooks + 1), dice.one_of(lengths), dice.one_of(lengths)]
    if number == 5:
        return [5, dice.one_of([0, 1, 2, 3, 1000, 1000000, MOST])]
    if number == 9:
        return thrown_ways(dice, reckoned)
    if number == 10:
        return [10, dice.below(hooks + 1)]
    return [number]


class Lines(unittest.TestCase):

    def test_all_calls_in_any_order(self):
        answered = set()
        for seed in range(LINES):
            dice = Dice(seed)
            reckoned = Reckoned()
            calls = [thrown_shape(dice)]
            wanted = [reckoned.answer(calls[0])]
            while len(calls) < 79:
                calls.append(thrown_call(dice, reckoned))
                wanted.append(reckoned.answer(calls[-1]))
            calls.append([11])
            wanted.append(reckoned.answer([11]))
            for call, told, want in zip(calls, ask(*calls), wanted):
                self.assertEqual(told, want, (seed, call))
                answered.add((call[0], min(0, told[0]) if call[0] != 3 else 0))
        # Each call is answered, and refused in each of its ways.
        self.assertEqual(answered, {
            (0, 0), (0, -1), (0, -5), (1, 0), (1, -2), (1, -1), (2, 0), (2, -2), (2, -1), (3, 0), (4, 0), (5, 0),
            (5, -1), (6, 0), (6, -6), (7, 0), (7, -1), (8, 0), (8, -6), (9, 0), (9, -1), (10, 0), (10, -2), (10, -6),
            (10, -4), (11, 0)})

    def test_several_mobiles_one_behind_another(self):
        for first in range(0, 60, 20):
            reckoned = Reckoned()
            calls = []
            for shape in SHAPES[first:first + 20]:
                calls.extend([begins(shape), [1, 0, 2], [7], [11]])
            self.assertEqual(ask(*calls), [reckoned.answer(call) for call in calls])

    def test_lines_asked_again_and_between_one_another(self):
        lines = [[begins([1, 2, 0, 3, 1, 0, 0]), [5, 2], [1, 1, 0], [6], [10, 1], [8], [11]],
                 [[11], [1, 0, 9], [6], [7], [8], [9, 0, 1, 4], [10, 0], [11]],
                 [begins([2, 3, 0, 0]), [2, 0, 3, 2], [7], [11], begins([0]), [11]]]
        told = [ask(*line) for line in lines]
        for line, want in zip(lines, told):
            reckoned = Reckoned()
            self.assertEqual(want, [reckoned.answer(call) for call in line])
        for place in (2, 0, 1, 1, 0, 2):
            self.assertEqual(ask(*lines[place]), told[place])


if __name__ == "__main__":
    unittest.main()
