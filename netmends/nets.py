"""One piece of net, and the calls on it."""

# The calls' numbers. The one that is left, 6, is best.
BEGINS = 0
TEAR = 1
MEND = 2
ENDS = 3
ODD = 4
CHECK = 5

# By a call's number: how many numbers stand behind it. Of check it is only the one that tells how many more.
NUMBERS_BEHIND = (2, 1, 1, 1, 0, 1, 0)

LEAST_SIDE = 2
MOST_SIDE = 4
MOST_KNOTS = 16
MOST_TORN = 8
MOST_CUT = 4

# At a way's inner knots the needle comes as often as it goes, so only its two ends can be odd.
MOST_ODD = 2


def is_side(knots):
    return LEAST_SIDE <= knots <= MOST_SIDE


def bit_of(knot):
    return 1 << knot


def pair_of(knot, other):
    """A bar's two knots as one number, whichever of them is told first."""
    return bit_of(knot) | bit_of(other)


def knots_in(bits):
    return [knot for knot in range(MOST_KNOTS) if bits & bit_of(knot)]


def odd_knots(pairs):
    """The knots at which an odd number of these bars ends, rising."""
    odd = 0
    for pair in pairs:
        # What comes a second time falls out again.
        odd = odd ^ pair
    return knots_in(odd)


def all_reached(bits, pairs):
    """Whether the bars lead from these knots to all of the bars."""
    reached = bits
    left = pairs
    while left:
        near = [pair for pair in left if pair & reached]
        if not near:
            return False
        left = [pair for pair in left if not pair & reached]
        for pair in near:
            reached = reached | pair
    return True


def has_way(pairs):
    """Whether the needle can go over these bars in one go."""
    if not pairs:
        return True
    return len(odd_knots(pairs)) <= MOST_ODD and all_reached(pairs[0], pairs)


def first_knot(pairs):
    """Where the earliest way over these bars, which have one, begins."""
    odd = odd_knots(pairs)
    if odd:
        return odd[0]
    return min([knots_in(pair)[0] for pair in pairs])


def without(pairs, gone):
    return [pair for pair in pairs if pair != gone]


def can_go(here, knot, left):
    """Whether a way over the bars that are left can go from here to this knot first."""
    step = pair_of(here, knot)
    return step in left and all_reached(bit_of(knot), without(left, step))


def earliest_way(pairs):
    """The earliest way over these bars, which have one."""
    if not pairs:
        return []
    here = first_knot(pairs)
    way = [here]
    left = pairs
    while left:
        there = min([knot for knot in range(MOST_KNOTS) if can_go(here, knot, left)])
        left = without(left, pair_of(here, there))
        way.append(there)
        here = there
    return way


class Net:
    """A piece of net, its torn bars in the order in which they were torn.

    A method that is named like a call gives back what this call answers.
    """

    def __init__(self):
        self.wide = 2
        self.high = 2
        self.torn = []

    def row_bars(self):
        return (self.wide - 1) * self.high

    def all_bars(self):
        return self.row_bars() + self.wide * (self.high - 1)

    def has_bar(self, bar):
        return bar < self.all_bars()

    def has_knot(self, knot):
        return knot < self.wide * self.high

    def knots_of(self, bar):
        if bar < self.row_bars():
            # A row has one bar fewer than knots, so knots run ahead of bars by one a row.
            knot = bar + bar // (self.wide - 1)
            return [knot, knot + 1]
        knot = bar - self.row_bars()
        return [knot, knot + self.wide]

    def pairs_of(self, bars):
        pairs = []
        for bar in bars:
            knots = self.knots_of(bar)
            pairs.append(pair_of(knots[0], knots[1]))
        return pairs

    def begins(self, wide, high):
        if not (is_side(wide) and is_side(high)):
            return [-1]
        self.wide = wide
        self.high = high
        self.torn = []
        return [self.all_bars()]

    def tear(self, bar):
        if not self.has_bar(bar):
            return [-2]
        if bar in self.torn:
            return [-4]
        if len(self.torn) == MOST_TORN:
            return [-5]
        self.torn.append(bar)
        return [len(self.torn)]

    def mend(self, bar):
        if not self.has_bar(bar):
            return [-2]
        if bar not in self.torn:
            return [-4]
        self.torn.remove(bar)
        return [len(self.torn)]

    def ends(self, bar):
        if not self.has_bar(bar):
            return [-2]
        return [0] + self.knots_of(bar)

    def odd(self):
        odd = odd_knots(self.pairs_of(self.torn))
        return [len(odd)] + odd

    def check(self, knots):
        if not all([self.has_knot(knot) for knot in knots]):
            return [-1]
        steps = [pair_of(here, there) for here, there in zip(knots, knots[1:])]
        if sorted(steps) == sorted(self.pairs_of(self.torn)):
            return [1]
        return [0]

    def larger_sets(self, sets):
        """The sets with one sound bar more, the earlier first, but for those that no further bar can help."""
        larger = []
        for cut in sets:
            first = cut[-1] + 1 if cut else 0
            for bar in range(first, self.all_bars()):
                if bar not in self.torn and self.may_come_to_do(cut + [bar]):
                    larger.append(cut + [bar])
        return larger

    def may_come_to_do(self, cut):
        odd = odd_knots(self.pairs_of(self.torn + cut))
        # Each bar more makes two odd knots even at the most.
        return len(odd) <= MOST_ODD + 2 * (MOST_CUT - len(cut))

    def best(self):
        sets = [[]]
        for size in range(MOST_CUT + 1):
            if size > 0:
                sets = self.larger_sets(sets)
            done = [cut for cut in sets if has_way(self.pairs_of(self.torn + cut))]
            if done:
                return [size, len(done)] + done[0] + earliest_way(self.pairs_of(self.torn + done[0]))
        return [-6]


def answer_of(net, call, numbers):
    if call == BEGINS:
        return net.begins(numbers[0], numbers[1])
    if call == TEAR:
        return net.tear(numbers[0])
    if call == MEND:
        return net.mend(numbers[0])
    if call == ENDS:
        return net.ends(numbers[0])
    if call == ODD:
        return net.odd()
    if call == CHECK:
        return net.check(numbers[1:])
    return net.best()


def behind_call(calls, place):
    """The place behind the call that stands at this place."""
    call = calls[place]
    behind = place + 1 + NUMBERS_BEHIND[call]
    if call == CHECK:
        return behind + calls[place + 1]
    return behind


def answers(calls):
    """For each call, in order: how many numbers it answers, then these."""
    net = Net()
    told = []
    place = 0
    while place < len(calls):
        behind = behind_call(calls, place)
        answer = answer_of(net, calls[place], calls[place + 1:behind])
        told.append(len(answer))
        told.extend(answer)
        place = behind
    return told
