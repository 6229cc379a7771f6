"""A mobile with what hangs at its hooks, and the calls about it."""

MOST_HOOKS = 7
LONGEST_ARM = 20
HEAVIEST = 1000000


class Rod:
    """Two arms, and the hooks at either end.

    At the left end are the hooks from `first` to just ahead of `middle`,
    at the right end those from `middle` to just ahead of `behind`.
    """

    def __init__(self, left, right, first, middle, behind):
        self.left = left
        self.right = right
        self.first = first
        self.middle = middle
        self.behind = behind

    def at_left(self, weights):
        """All that hangs at the left end."""
        return sum(weights[self.first:self.middle])

    def at_right(self, weights):
        """All that hangs at the right end."""
        return sum(weights[self.middle:self.behind])

    def left_pull(self, weights):
        """The left arm times all that hangs at the left end."""
        return self.left * self.at_left(weights)

    def right_pull(self, weights):
        """The right arm times all that hangs at the right end."""
        return self.right * self.at_right(weights)


class Mobile:
    """One mobile. Each call answers a list; a refusal is one number below 0."""

    def __init__(self):
        self.rods = []
        self.weights = [0]

    def begins(self, shape):
        """Becomes the mobile that the shape tells; answers how many hooks it has."""
        if not tells_one_mobile(shape):
            return [-1]
        hooks = shape.count(0)
        if hooks > MOST_HOOKS:
            return [-5]
        self.rods = rods_told(shape)
        self.weights = [0] * hooks
        return [hooks]

    def hang(self, hook, weight):
        """Hangs the weight at the hook; answers what hangs at all hooks together."""
        if hook >= len(self.weights):
            return [-2]
        if weight > HEAVIEST:
            return [-1]
        self.weights[hook] = weight
        return [sum(self.weights)]

    def arms(self, rod, left, right):
        """Gives the rod these arms; what hangs stays."""
        if rod >= len(self.rods):
            return [-2]
        if not may_be_arms(left, right):
            return [-1]
        changed = self.rods[rod]
        changed.left = left
        changed.right = right
        return [0]

    def pulls(self):
        """Answers whether all rods are level, and each rod's left pull less its right one."""
        rest = [rod.left_pull(self.weights) - rod.right_pull(self.weights) for rod in self.rods]
        return with_row(0 if any(rest) else 1, rest)

    def least(self):
        """Answers the least weights together, and the least weights."""
        weights = self.balancing(1)
        return with_row(sum(weights), weights)

    def scale(self, times):
        """Hangs the least weights so many times; answers what hangs then together."""
        weights = self.balancing(times)
        if times == 0 or max(weights) > HEAVIEST:
            return [-1]
        self.weights = weights
        return [sum(weights)]

    def up(self):
        """Answers how many times the least weights make up what hangs, and these weights."""
        times = times_of_all(self.weights, self.balancing(1))
        if times == 0:
            return [-6]
        return with_row(times, self.balancing(times))

    def mend(self):
        """Hangs weights that balance with the fewest changed; answers how many are, and the weights."""
        weights = self.balancing(times_of_most(self.weights, self.balancing(1)))
        if max(weights) > HEAVIEST:
            return [-1]
        changed = [hook for hook, weight in enumerate(weights) if weight != self.weights[hook]]
        self.weights = weights
        return with_row(len(changed), weights)

    def wants(self):
        """Answers how many rods there are, and the shortest arms that make each level with what hangs."""
        if 0 in self.weights:
            return [-6]
        shortest = []
        for rod in self.rods:
            left = rod.at_left(self.weights)
            right = rod.at_right(self.weights)
            shared = greatest_divisor(left, right)
            shortest.extend([right // shared, left // shared])
        return with_row(len(self.rods), shortest)

    def ways(self, others, weights):
        """Answers in how many ways the weights balance, and that way before which there are so many others."""
        if len(weights) != len(self.weights) or min(weights) < 1 or max(weights) > HEAVIEST:
            return [-1]
        # All that balance are so many times the least weights: those that are
        # as much together as these are the one way there can be.
        way = self.balancing(sum(weights) // sum(self.balancing(1)))
        if sorted(way) != sorted(weights):
            return with_row(0, [])
        return with_row(1, way if others == 0 else [])

    def missing(self, hook):
        """Answers what has to hang at the hook so that it balances with what hangs at the others."""
        if hook >= len(self.weights):
            return [-2]
        least = self.balancing(1)
        # What hangs at the hook itself counts for nothing.
        rest = list(self.weights)
        rest[hook] = 0
        times = times_of_all(rest, least)
        if times == 0:
            return [-6]
        if rest.count(0) > 1:
            return [-4]
        return [times * least[hook]]

    def state(self):
        """Answers how many rods there are, the mobile's numbers, and what hangs."""
        shape = shape_told(self.rods, len(self.weights))
        return with_row(len(self.rods), shape) + as_row(self.weights)

    def balancing(self, times):
        """The least weights so many times, by hooks."""
        return [times * weight for weight in least_weights(self.rods, len(self.weights))]


def with_row(number, row):
    """An answer of a number and a list, behind how many numbers the list has."""
    return [number] + as_row(row)


def as_row(row):
    """A list of its own: the row behind how many numbers it has."""
    return [len(row)] + row


def may_be_arms(left, right):
    """Whether a rod may have these arms."""
    return 1 <= left <= LONGEST_ARM and 1 <= right <= LONGEST_ARM


def tells_one_mobile(shape):
    """Whether the shape tells just one mobile, with arms that may be, of any number of hooks."""
    wanted = 1
    place = 0
    while wanted > 0:
        if place >= len(shape):
            return False
        if shape[place] == 0:
            wanted -= 1
            place += 1
        elif place + 1 < len(shape) and may_be_arms(shape[place], shape[place + 1]):
            # Two mobiles are told behind a rod's arms, where one was wanted.
            wanted += 1
            place += 2
        else:
            return False
    return place == len(shape)


def rods_told(shape):
    """The rods, by their numbers, of a shape that tells one mobile."""
    rods = []
    # How many hooks each mobile has that is told behind this place and not
    # yet at a rod. The shape is read from its end, as a rod can be made only
    # when it's known how many hooks are at its ends.
    ends = []
    first = shape.count(0)
    place = len(shape)
    while place > 0:
        if shape[place - 1] == 0:
            place -= 1
            first -= 1
            ends.append(1)
        else:
            place -= 2
            middle = first + ends.pop()
            behind = middle + ends.pop()
            ends.append(behind - first)
            rods.append(Rod(shape[place], shape[place + 1], first, middle, behind))
    return list(reversed(rods))


def shape_told(rods, hooks):
    """The numbers that tell the mobile with these rods and so many hooks."""
    shape = []
    told = 0
    for rod in rods:
        # The hooks that are told ahead of a rod are just those to its left.
        shape.extend([0] * (rod.first - told))
        told = rod.first
        shape.extend([rod.left, rod.right])
    return shape + [0] * (hooks - told)


def least_weights(rods, hooks):
    """The least weights that make all the rods level, by hooks."""
    weights = [1] * hooks
    # What is at a rod's ends is told behind it: from the last rod to the
    # first, either end has its own least weights when its rod is reached.
    for rod in reversed(rods):
        left = rod.left_pull(weights)
        right = rod.right_pull(weights)
        shared = greatest_divisor(left, right)
        for hook in range(rod.first, rod.middle):
            weights[hook] *= right // shared
        for hook in range(rod.middle, rod.behind):
            weights[hook] *= left // shared
    return weights


def times_hung(weights, least):
    """Of each hook at which something hangs, how many times its least weight: 0 if no whole number of times."""
    return [weight // one if weight % one == 0 else 0 for weight, one in zip(weights, least) if weight > 0]


def times_of_all(weights, least):
    """How many times its least weight is all that hangs; 1 if nothing hangs; 0 if there's no such number."""
    hung = times_hung(weights, least)
    if len(hung) == 0:
        return 1
    return hung[0] if min(hung) == max(hung) else 0


def times_of_most(weights, least):
    """How many times the least weights are what hangs at the most hooks, the least of several; 1 if there's none."""
    hung = times_hung(weights, least)
    best = 1
    for times in sorted(hung):
        if times > 0 and hung.count(times) > hung.count(best):
            best = times
    return best


def greatest_divisor(one, other):
    """The greatest whole number that divides both, which are above 0."""
    while other > 0:
        rest = one % other
        one = other
        other = rest
    return one
