"""Many lines of calls against a plain model, whose bars are found by walking the net."""

import random
import unittest

from tests.lines import (
    LARGEST, ask, bars_of, begins, best, check, ends, mend, odd, plain_best, plain_check, plain_odd, tear,
)


class Model:
    def __init__(self):
        self.bars = bars_of(2, 2)
        self.sound = [True] * len(self.bars)

    def torn(self):
        return self.sound.count(False)

    def torn_bars(self):
        return [bar for bar, sound in enumerate(self.sound) if not sound]

    def answer(self, call):
        asked = (self.begin, self.tear, self.mend, self.ends, self.odd, self.check, self.best)
        return asked[call[0]](*call[1:])

    def begin(self, wide, high):
        if wide not in (2, 3, 4) or high not in (2, 3, 4):
            return [-1]
        self.bars = bars_of(wide, high)
        self.sound = [True] * len(self.bars)
        return [len(self.bars)]

    def tear(self, bar):
        if bar >= len(self.bars):
            return [-2]
        if not self.sound[bar]:
            return [-4]
        if self.torn() == 8:
            return [-5]
        self.sound[bar] = False
        return [self.torn()]

    def mend(self, bar):
        if bar >= len(self.bars):
            return [-2]
        if self.sound[bar]:
            return [-4]
        self.sound[bar] = True
        return [self.torn()]

    def ends(self, bar):
        if bar >= len(self.bars):
            return [-2]
        return [0, *self.bars[bar]]

    def odd(self):
        return plain_odd(self.bars, self.torn_bars())

    def check(self, count, *knots):
        return plain_check(self.bars, self.torn_bars(), knots)

    def best(self):
        return plain_best(self.bars, self.torn_bars())


def some_row(source, model):
    """A walk over torn bars, as rows of any knots are hardly ever ways; some are spoilt."""
    left = [model.bars[bar] for bar in model.torn_bars()]
    here = source.choice([knot for knots in left or [(0, 1)] for knot in knots])
    row = [here]
    while [knots for knots in left if here in knots]:
        knots = source.choice([knots for knots in left if here in knots])
        left.remove(knots)
        here = sum(knots) - here
        row.append(here)
    if source.random() < 0.3:
        row[source.randrange(len(row))] = source.choice((source.randrange(16), source.randrange(18), LARGEST))
    if source.random() < 0.1:
        row.pop()
    return row


def some_call(source, model):
    kinds = ("begins", "tear", "mend", "ends", "odd", "check", "best")
    kind = source.choices(kinds, (1, 14, 6, 4, 3, 6, 2))[0]
    if kind == "best" and len(model.bars) <= 17:
        # The plain try takes long on the larger nets; those have tests of their own.
        return best()
    if kind in ("odd", "best"):
        return odd()
    if kind == "check":
        return check(*some_row(source, model))
    if kind == "begins":
        sides = (2, 3, 4, 2, 3, 4, 4, 4, 0, 1, 5, LARGEST)
        return begins(source.choice(sides), source.choice(sides))
    bar = source.choice((source.randrange(26), source.randrange(12), source.randrange(26), LARGEST))
    return {"tear": tear, "mend": mend, "ends": ends}[kind](bar)


class ManyLines(unittest.TestCase):
    def test_against_the_model(self):
        source = random.Random(20)
        seen = set()
        for turn in range(1500):
            model = Model()
            calls = []
            expected = []
            for place in range(source.randint(1, 60)):
                calls.append(some_call(source, model))
                expected.append(model.answer(calls[-1]))
            self.assertEqual(ask(*calls), expected, calls)
            seen |= {(call[0], min(answer[0], 0)) for call, answer in zip(calls, expected) if call[0] < 5}
            seen |= {(call[0], answer[0]) for call, answer in zip(calls, expected) if call[0] >= 5}
        self.assertEqual(
            seen,
            {(0, 0), (0, -1), (1, 0), (1, -2), (1, -4), (1, -5), (2, 0), (2, -2), (2, -4), (3, 0), (3, -2)}
            | {(4, 0), (5, 1), (5, 0), (5, -1), (6, 0), (6, 1), (6, 2), (6, 3), (6, 4), (6, -6)},
        )


if __name__ == "__main__":
    unittest.main()
