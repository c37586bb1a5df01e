"""One piece of net, and the calls on it."""

# The calls' numbers. The one that is left, 3, is ends.
BEGINS = 0
TEAR = 1
MEND = 2

# By a call's number: how many numbers stand behind it.
NUMBERS_BEHIND = (2, 1, 1, 1)

LEAST_SIDE = 2
MOST_SIDE = 4
MOST_TORN = 8


def is_side(knots):
    return LEAST_SIDE <= knots <= MOST_SIDE


class Net:
    """A piece of net, its torn bars in the order in which they were torn.

    A method that is named like a call gives back what this call answers.
    """

    def __init__(self):
        self.wide = 2
        self.high = 2
        self.torn = []

    def row_bars(self):
        return (self.wide - 1) * self.high

    def all_bars(self):
        return self.row_bars() + self.wide * (self.high - 1)

    def has_bar(self, bar):
        return bar < self.all_bars()

    def begins(self, wide, high):
        if not (is_side(wide) and is_side(high)):
            return [-1]
        self.wide = wide
        self.high = high
        self.torn = []
        return [self.all_bars()]

    def tear(self, bar):
        if not self.has_bar(bar):
            return [-2]
        if bar in self.torn:
            return [-4]
        if len(self.torn) == MOST_TORN:
            return [-5]
        self.torn.append(bar)
        return [len(self.torn)]

    def mend(self, bar):
        if not self.has_bar(bar):
            return [-2]
        if bar not in self.torn:
            return [-4]
        self.torn.remove(bar)
        return [len(self.torn)]

    def ends(self, bar):
        if not self.has_bar(bar):
            return [-2]
        if bar < self.row_bars():
            # A row has one bar fewer than knots, so knots run ahead of bars by one a row.
            knot = bar + bar // (self.wide - 1)
            return [0, knot, knot + 1]
        knot = bar - self.row_bars()
        return [0, knot, knot + self.wide]


def answer_of(net, call, numbers):
    if call == BEGINS:
        return net.begins(numbers[0], numbers[1])
    bar = numbers[0]
    if call == TEAR:
        return net.tear(bar)
    if call == MEND:
        return net.mend(bar)
    return net.ends(bar)


def answers(calls):
    """For each call, in order: how many numbers it answers, then these."""
    net = Net()
    told = []
    place = 0
    while place < len(calls):
        call = calls[place]
        behind = place + 1 + NUMBERS_BEHIND[call]
        answer = answer_of(net, call, calls[place + 1:behind])
        told.append(len(answer))
        told.extend(answer)
        place = behind
    return told
