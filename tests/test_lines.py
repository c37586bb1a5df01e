"""Many lines of calls against a plain model, whose bars are found by walking the net."""

import random
import unittest

from tests.lines import LARGEST, ask, bars_of, begins, ends, mend, tear


class Model:
    def __init__(self):
        self.bars = bars_of(2, 2)
        self.sound = [True] * len(self.bars)

    def torn(self):
        return self.sound.count(False)

    def answer(self, call):
        return (self.begin, self.tear, self.mend, self.ends)[call[0]](*call[1:])

    def begin(self, wide, high):
        if wide not in (2, 3, 4) or high not in (2, 3, 4):
            return [-1]
        self.bars = bars_of(wide, high)
        self.sound = [True] * len(self.bars)
        return [len(self.bars)]

    def tear(self, bar):
        if bar >= len(self.bars):
            return [-2]
        if not self.sound[bar]:
            return [-4]
        if self.torn() == 8:
            return [-5]
        self.sound[bar] = False
        return [self.torn()]

    def mend(self, bar):
        if bar >= len(self.bars):
            return [-2]
        if self.sound[bar]:
            return [-4]
        self.sound[bar] = True
        return [self.torn()]

    def ends(self, bar):
        if bar >= len(self.bars):
            return [-2]
        return [0, *self.bars[bar]]


def some_call(source):
    kind = source.choices(("begins", "tear", "mend", "ends"), (1, 14, 6, 4))[0]
    if kind == "begins":
        sides = (2, 3, 4, 2, 3, 4, 4, 4, 0, 1, 5, LARGEST)
        return begins(source.choice(sides), source.choice(sides))
    bar = source.choice((source.randrange(26), source.randrange(12), source.randrange(26), LARGEST))
    return {"tear": tear, "mend": mend, "ends": ends}[kind](bar)


class ManyLines(unittest.TestCase):
    def test_against_the_model(self):
        source = random.Random(20)
        seen = set()
        for turn in range(1500):
            calls = [some_call(source) for place in range(source.randint(1, 60))]
            model = Model()
            expected = [model.answer(call) for call in calls]
            self.assertEqual(ask(*calls), expected, calls)
            seen |= {(call[0], min(answer[0], 0)) for call, answer in zip(calls, expected)}
        self.assertEqual(
            seen,
            {(0, 0), (0, -1), (1, 0), (1, -2), (1, -4), (1, -5), (2, 0), (2, -2), (2, -4), (3, 0), (3, -2)},
        )


if __name__ == "__main__":
    unittest.main()
