"""A mobile with what hangs at its hooks, and the calls about it."""

MOST_HOOKS = 7
LONGEST_ARM = 20
HEAVIEST = 1000000


class Rod:
    """Two arms, and the hooks at either end.

    At the left end are the hooks from `first` to just ahead of `middle`,
    at the right end those from `middle` to just ahead of `behind`.
    """

    def __init__(self, left, right, first, middle, behind):
        self.left = left
        self.right = right
        self.first = first
        self.middle = middle
        self.behind = behind

    def left_pull(self, weights):
        """The left arm times all that hangs at the left end."""
        return self.left * sum(weights[self.first:self.middle])

    def right_pull(self, weights):
        """The right arm times all that hangs at the right end."""
        return self.right * sum(weights[self.middle:self.behind])


class Mobile:
    """One mobile. Each call answers a list; a refusal is one number below 0."""

    def __init__(self):
        self.rods = []
        self.weights = [0]

    def begins(self, shape):
        """Becomes the mobile that the shape tells; answers how many hooks it has."""
        if not tells_one_mobile(shape):
            return [-1]
        hooks = shape.count(0)
        if hooks > MOST_HOOKS:
            return [-5]
        self.rods = rods_told(shape)
        self.weights = [0] * hooks
        return [hooks]

    def hang(self, hook, weight):
        """Hangs the weight at the hook; answers what hangs at all hooks together."""
        if hook >= len(self.weights):
            return [-2]
        if weight > HEAVIEST:
            return [-1]
        self.weights[hook] = weight
        return [sum(self.weights)]

    def arms(self, rod, left, right):
        """Gives the rod these arms; what hangs stays."""
        if rod >= len(self.rods):
            return [-2]
        if not may_be_arms(left, right):
            return [-1]
        changed = self.rods[rod]
        changed.left = left
        changed.right = right
        return [0]

    def pulls(self):
        """Answers whether all rods are level, and each rod's left pull less its right one."""
        rest = [rod.left_pull(self.weights) - rod.right_pull(self.weights) for rod in self.rods]
        return with_row(0 if any(rest) else 1, rest)

    def least(self):
        """Answers the least weights together, and the least weights."""
        weights = least_weights(self.rods, len(self.weights))
        return with_row(sum(weights), weights)

    def scale(self, times):
        """Hangs the least weights so many times; answers what hangs then together."""
        weights = [times * weight for weight in least_weights(self.rods, len(self.weights))]
        if times == 0 or max(weights) > HEAVIEST:
            return [-1]
        self.weights = weights
        return [sum(weights)]


def with_row(number, row):
    """An answer of a number and a list, behind how many numbers the list has."""
    return [number, len(row)] + row


def may_be_arms(left, right):
    """Whether a rod may have these arms."""
    return 1 <= left <= LONGEST_ARM and 1 <= right <= LONGEST_ARM


def tells_one_mobile(shape):
    """Whether the shape tells just one mobile, with arms that may be, of any number of hooks."""
    wanted = 1
    place = 0
    while wanted > 0:
        if place >= len(shape):
            return False
        if shape[place] == 0:
            wanted -= 1
            place += 1
        elif place + 1 < len(shape) and may_be_arms(shape[place], shape[place + 1]):
            # Two mobiles are told behind a rod's arms, where one was wanted.
            wanted += 1
            place += 2
        else:
            return False
    return place == len(shape)


def rods_told(shape):
    """The rods, by their numbers, of a shape that tells one mobile."""
    rods = []
    # How many hooks each mobile has that is told behind this place and not
    # yet at a rod. The shape is read from its end, as a rod can be made only
    # when it's known how many hooks are at its ends.
    ends = []
    first = shape.count(0)
    place = len(shape)
    while place > 0:
        if shape[place - 1] == 0:
            place -= 1
            first -= 1
            ends.append(1)
        else:
            place -= 2
            middle = first + ends.pop()
            behind = middle + ends.pop()
            ends.append(behind - first)
            rods.append(Rod(shape[place], shape[place + 1], first, middle, behind))
    return list(reversed(rods))


def least_weights(rods, hooks):
    """The least weights that make all the rods level, by hooks."""
    weights = [1] * hooks
    # What is at a rod's ends is told behind it: from the last rod to the
    # first, either end has its own least weights when its rod is reached.
    for rod in reversed(rods):
        left = rod.left_pull(weights)
        right = rod.right_pull(weights)
        shared = greatest_divisor(left, right)
        for hook in range(rod.first, rod.middle):
            weights[hook] *= right // shared
        for hook in range(rod.middle, rod.behind):
            weights[hook] *= left // shared
    return weights


def greatest_divisor(one, other):
    """The greatest whole number that divides both, which are above 0."""
    while other > 0:
        rest = one % other
        one = other
        other = rest
    return one
