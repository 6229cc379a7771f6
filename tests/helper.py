"""What the tests share: the calls in words, and a second reckoning of what a mobile does.

The second reckoning goes another way than the program: by a tree, by
recursion and by fractions. It is only for what can't be counted by hand.
"""

from fractions import Fraction
from itertools import cycle, permutations
from math import gcd, lcm

from hungmobile.mobile import answers

MOST = 4294967295


def begins(shape):
    return [0, len(shape)] + shape


def hang(hook, weight):
    return [1, hook, weight]


def arms(rod, left, right):
    return [2, rod, left, right]


def pulls():
    return [3]


def least():
    return [4]


def scale(times):
    return [5, times]


def up():
    return [6]


def mend():
    return [7]


def wants():
    return [8]


def ways(others, weights):
    return [9, others, len(weights)] + weights


def missing(hook):
    return [10, hook]


def state():
    return [11]


def hang_all(weights):
    return [hang(hook, weight) for hook, weight in enumerate(weights)]


def ask(*calls):
    """The answers to the calls, a list each."""
    told = answers([number for call in calls for number in call])
    parts = []
    place = 0
    while place < len(told):
        length = told[place]
        part = told[place + 1:place + 1 + length]
        if length < 1 or len(part) != length:
            raise AssertionError(f"an answer is cut off: {told}")
        parts.append(part)
        place += 1 + length
    if len(parts) != len(calls):
        raise AssertionError(f"{len(calls)} calls, {len(parts)} answers")
    return parts


def last(*calls):
    """The answer to the last of the calls."""
    return ask(*calls)[-1]


def hung_after(calls, hooks):
    """What hangs at each hook behind the calls, by emptying all others (from two hooks on)."""
    hung = []
    for hook in range(hooks):
        others = [hang(other, 0) for other in range(hooks) if other != hook]
        hung.append(last(*calls, *others)[0])
    return hung


def reach_after(calls, hooks):
    """For each hook what 1 hung there alone pulls at each rod: its arm, below 0 on the right, or 0."""
    return [last(*calls, *hang_all([1 if other == hook else 0 for other in range(hooks)]), pulls())[2:]
            for hook in range(hooks)]


def state_of(shape, weights):
    """What state answers of a mobile of these numbers, at which these weights hang."""
    return [len(weights) - 1, len(shape)] + shape + [len(weights)] + weights


def tree_of(shape):
    """A hook is None; a rod is (left arm, right arm, mobile, mobile)."""
    def read(place):
        if shape[place] == 0:
            return None, place + 1
        at_left, behind_left = read(place + 2)
        at_right, behind = read(behind_left)
        return (shape[place], shape[place + 1], at_left, at_right), behind
    tree, behind = read(0)
    if behind != len(shape):
        raise AssertionError(f"numbers are left over: {shape}")
    return tree


def hooks_of(tree):
    return 1 if tree is None else hooks_of(tree[2]) + hooks_of(tree[3])


def reckoned_pulls(shape, weights):
    """Of each rod its left pull less its right one, by walking the tree."""
    def walk(tree, hung):
        if tree is None:
            return []
        left, right, at_left, at_right = tree
        split = hooks_of(at_left)
        own = left * sum(hung[:split]) - right * sum(hung[split:])
        return [own] + walk(at_left, hung[:split]) + walk(at_right, hung[split:])
    return walk(tree_of(shape), weights)


def reckoned_least(shape):
    """The least weights, from the share of the whole that each hook bears."""
    def shares(tree, whole):
        if tree is None:
            return [whole]
        left, right, at_left, at_right = tree
        both = left + right
        return shares(at_left, whole * Fraction(right, both)) + shares(at_right, whole * Fraction(left, both))
    parts = shares(tree_of(shape), Fraction(1))
    whole = lcm(*[part.denominator for part in parts])
    weights = [int(part * whole) for part in parts]
    common = gcd(*weights)
    return [weight // common for weight in weights]


def reckoned_up(shape, weights):
    """What up answers, from the shares of the least weights that hang."""
    least_ones = reckoned_least(shape)
    shares = {Fraction(weight, one) for weight, one in zip(weights, least_ones) if weight} or {Fraction(1)}
    times = min(shares)
    if len(shares) > 1 or times.denominator > 1:
        return [-6]
    return [int(times), len(least_ones)] + [int(times) * one for one in least_ones]


def reckoned_mend(shape, weights):
    """What mend answers, by trying each number of times that any hook asks for."""
    least_ones = reckoned_least(shape)
    tried = []
    for times in {1} | {weight // one for weight, one in zip(weights, least_ones) if weight >= one}:
        hung = [times * one for one in least_ones]
        changed = len([hook for hook, weight in enumerate(weights) if weight != hung[hook]])
        tried.append((changed, times, hung))
    changed, times, hung = min(tried)
    return [-1] if max(hung) > 1000000 else [changed, len(hung)] + hung


def reckoned_wants(shape, weights):
    """What wants answers, by walking the tree."""
    def walk(tree, hung):
        if tree is None:
            return []
        split = hooks_of(tree[2])
        share = Fraction(sum(hung[split:]), sum(hung[:split]))
        return [share.numerator, share.denominator] + walk(tree[2], hung[:split]) + walk(tree[3], hung[split:])
    if 0 in weights:
        return [-6]
    wanted = walk(tree_of(shape), weights)
    return [len(wanted) // 2, len(wanted)] + wanted


def reckoned_ways(shape, others, weights):
    """What ways answers, by hanging the weights in every order."""
    hooks = hooks_of(tree_of(shape))
    if len(weights) != hooks or not all(1 <= weight <= 1000000 for weight in weights):
        return [-1]
    found = [list(way) for way in sorted(set(permutations(weights))) if not any(reckoned_pulls(shape, way))]
    way = found[others] if others < len(found) else []
    return [len(found), len(way)] + way


def reckoned_missing(shape, hook, weights):
    """What missing answers, from the shares of the least weights that hang at the others."""
    least_ones = reckoned_least(shape)
    if hook >= len(weights):
        return [-2]
    if len(weights) == 1:
        return [1]
    others = [(weight, one) for other, (weight, one) in enumerate(zip(weights, least_ones)) if other != hook]
    shares = {Fraction(weight, one) for weight, one in others if weight}
    if len(shares) > 1 or any(share.denominator > 1 for share in shares):
        return [-6]
    if any(weight == 0 for weight, one in others):
        return [-4]
    return [int(min(shares)) * least_ones[hook]]


def forms(hooks):
    """Every form that a mobile of so many hooks can have: None, or two forms."""
    if hooks == 1:
        return [None]
    return [(at_left, at_right)
            for split in range(1, hooks)
            for at_left in forms(split)
            for at_right in forms(hooks - split)]


def shape_of(form, lengths):
    """The numbers of a form, its arms taken from lengths in their order."""
    if form is None:
        return [0]
    left = next(lengths)
    right = next(lengths)
    return [left, right] + shape_of(form[0], lengths) + shape_of(form[1], lengths)


def shapes(most_hooks):
    """Every form of up to so many hooks, each with arms from 1 to 20 that go on from form to form."""
    lengths = cycle([1, 20, 3, 2, 7, 7, 4, 6, 19, 5, 12, 18, 20, 1, 10, 15, 8])
    return [shape_of(form, lengths)
            for hooks in range(1, most_hooks + 1)
            for form in forms(hooks)]


def chain(hooks, left=1, right=1):
    """Rods one below another, each with a hook at its left end."""
    return [left, right, 0] * (hooks - 1) + [0]
