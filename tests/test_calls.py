"""Point 1 of the promises: begins, tear, mend, ends."""

import unittest

from netmends.nets import answers
from tests.lines import LARGEST, SIZES, ask, bars_of, begins, ends, last, mend, tear, torn_now

TORN_8 = [tear(bar) for bar in range(8)]


class FirstCall(unittest.TestCase):
    """Any call may be the first: the net is 2 wide and 2 high, nothing torn."""

    def test_begins(self):
        self.assertEqual(answers([0, 3, 2]), [1, 7])

    def test_begins_refused_leaves_the_first_net(self):
        self.assertEqual(ask(begins(5, 2), ends(3), ends(4)), [[-1], [0, 1, 3], [-2]])

    def test_tear(self):
        for bar in range(4):
            self.assertEqual(answers([1, bar]), [1, 1])
        self.assertEqual(answers([1, 4]), [1, -2])

    def test_mend(self):
        for bar in range(4):
            self.assertEqual(answers([2, bar]), [1, -4])
        self.assertEqual(answers([2, 4]), [1, -2])

    def test_ends(self):
        self.assertEqual(answers([3, 0]), [3, 0, 0, 1])
        self.assertEqual(answers([3, 1]), [3, 0, 2, 3])
        self.assertEqual(answers([3, 2]), [3, 0, 0, 2])
        self.assertEqual(answers([3, 3]), [3, 0, 1, 3])
        self.assertEqual(answers([3, 4]), [1, -2])


class SeveralCalls(unittest.TestCase):
    def test_answers_stand_in_order_each_with_its_count(self):
        calls = [0, 3, 2, 1, 0, 3, 6, 2, 0, 1, 7, 0, 1, 1]
        self.assertEqual(answers(calls), [1, 7, 1, 1, 3, 0, 2, 5, 1, 0, 1, -2, 1, -1])

    def test_60_calls(self):
        calls = [0, 4, 4]
        expected = [1, 24]
        for turn in range(29):
            bar = turn % 24
            calls += [1, bar, 2, bar]
            expected += [1, 1, 1, 0]
        calls += [3, 23]
        expected += [3, 0, 11, 15]
        self.assertEqual(answers(calls), expected)

    def test_60_of_one_call(self):
        self.assertEqual(answers([0, 2, 3] * 60), [1, 7] * 60)
        self.assertEqual(answers([3, 0] * 60), [3, 0, 0, 1] * 60)
        self.assertEqual(answers([1, 0] * 60), [1, 1] + [1, -4] * 59)
        self.assertEqual(answers([2, 0] * 60), [1, -4] * 60)


class Begins(unittest.TestCase):
    def test_how_many_bars(self):
        counts = {
            (2, 2): 4, (2, 3): 7, (2, 4): 10,
            (3, 2): 7, (3, 3): 12, (3, 4): 17,
            (4, 2): 10, (4, 3): 17, (4, 4): 24,
        }
        for (wide, high), count in counts.items():
            with self.subTest(wide=wide, high=high):
                self.assertEqual(answers([0, wide, high]), [1, count])

    def test_nothing_is_torn_behind_it(self):
        for wide, high in SIZES:
            with self.subTest(wide=wide, high=high):
                calls = [begins(4, 4)] + TORN_8 + [begins(wide, high)]
                count = len(bars_of(wide, high))
                self.assertEqual(torn_now(count, *calls), [])
                self.assertEqual(last(*calls, tear(0)), [1])
                for bar in range(count):
                    self.assertEqual(last(*calls, mend(bar)), [-4])

    def test_nothing_is_torn_when_it_begins_at_the_same_size(self):
        self.assertEqual(ask(tear(2), begins(2, 2), mend(2), tear(2)), [[1], [4], [-4], [1]])

    def test_refused_sides(self):
        for wrong in (0, 1, 5, LARGEST):
            for right in (2, 3, 4):
                with self.subTest(wrong=wrong, right=right):
                    self.assertEqual(answers([0, wrong, right]), [1, -1])
                    self.assertEqual(answers([0, right, wrong]), [1, -1])
            for other in (0, 1, 5, LARGEST):
                self.assertEqual(answers([0, wrong, other]), [1, -1])

    def test_all_is_as_it_was_behind_a_refusal(self):
        for wrong in (0, 1, 5, LARGEST):
            for refused in (begins(wrong, 2), begins(2, wrong), begins(wrong, wrong)):
                with self.subTest(refused=refused):
                    calls = [begins(3, 4), tear(5), tear(16), refused]
                    self.assertEqual(torn_now(17, *calls), [5, 16])
                    self.assertEqual(last(*calls, tear(17)), [-2])
                    self.assertEqual(last(*calls, tear(0)), [3])
                    for bar, knots in enumerate(bars_of(3, 4)):
                        self.assertEqual(last(*calls, ends(bar)), [0, knots[0], knots[1]])


class Tear(unittest.TestCase):
    def test_how_many_are_torn_then(self):
        bars = [23, 0, 12, 11, 7, 1, 22, 16]
        told = ask(begins(4, 4), *[tear(bar) for bar in bars])
        self.assertEqual(told, [[24]] + [[count] for count in range(1, 9)])

    def test_each_bar_can_be_torn(self):
        for wide, high in SIZES:
            for bar in range(len(bars_of(wide, high))):
                self.assertEqual(last(begins(wide, high), tear(bar)), [1])
                self.assertEqual(torn_now(len(bars_of(wide, high)), begins(wide, high), tear(bar)), [bar])

    def test_no_such_bar(self):
        for wide, high in SIZES:
            count = len(bars_of(wide, high))
            for bar in (count, count + 1, LARGEST):
                with self.subTest(wide=wide, high=high, bar=bar):
                    calls = [begins(wide, high), tear(1), tear(bar)]
                    self.assertEqual(last(*calls), [-2])
                    self.assertEqual(torn_now(count, *calls), [1])
                    self.assertEqual(last(*calls, tear(0)), [2])

    def test_bars_of_a_larger_net_before_are_none(self):
        self.assertEqual(ask(begins(4, 4), tear(23), begins(2, 2), tear(23)), [[24], [1], [4], [-2]])

    def test_torn_already(self):
        calls = [begins(3, 3), tear(4), tear(9), tear(4)]
        self.assertEqual(last(*calls), [-4])
        self.assertEqual(torn_now(12, *calls), [4, 9])
        self.assertEqual(last(*calls, mend(4)), [1])

    def test_torn_already_where_8_are_torn(self):
        for bar in range(8):
            calls = [begins(3, 3)] + TORN_8 + [tear(bar)]
            self.assertEqual(last(*calls), [-4])
            self.assertEqual(last(*calls, mend(bar)), [7])

    def test_sound_bar_where_8_are_torn(self):
        for bar in range(8, 12):
            calls = [begins(3, 3)] + TORN_8 + [tear(bar)]
            self.assertEqual(last(*calls), [-5])
            self.assertEqual(last(*calls, mend(bar)), [-4])
            self.assertEqual(last(*calls, mend(0)), [7])
            self.assertEqual(torn_now(12, *calls), [0, 1, 2, 3, 4, 5, 6, 7])

    def test_no_such_bar_where_8_are_torn(self):
        for bar in (12, LARGEST):
            calls = [begins(3, 3)] + TORN_8 + [tear(bar)]
            self.assertEqual(last(*calls), [-2])
            self.assertEqual(last(*calls, mend(7)), [7])

    def test_an_eighth_again_behind_a_mend(self):
        told = ask(begins(3, 3), *TORN_8, mend(3), tear(11), tear(3), mend(11), tear(3))
        self.assertEqual(told[-5:], [[7], [8], [-5], [7], [8]])


class Mend(unittest.TestCase):
    def test_how_many_are_torn_then(self):
        order = [3, 7, 0, 5, 1, 6, 2, 4]
        told = ask(begins(4, 2), *TORN_8, *[mend(bar) for bar in order])
        self.assertEqual(told[-8:], [[count] for count in range(7, -1, -1)])

    def test_only_that_bar_is_sound_then(self):
        for bar in range(8):
            calls = [begins(3, 3)] + TORN_8 + [mend(bar)]
            left = [other for other in range(8) if other != bar]
            self.assertEqual(torn_now(8, *calls), left)

    def test_no_such_bar(self):
        for wide, high in SIZES:
            count = len(bars_of(wide, high))
            for bar in (count, count + 1, LARGEST):
                with self.subTest(wide=wide, high=high, bar=bar):
                    calls = [begins(wide, high), tear(0), mend(bar)]
                    self.assertEqual(last(*calls), [-2])
                    self.assertEqual(torn_now(count, *calls), [0])

    def test_not_torn(self):
        for bar in (0, 3, 11):
            calls = [begins(3, 3), tear(4), mend(bar)]
            self.assertEqual(last(*calls), [-4])
            self.assertEqual(torn_now(12, *calls), [4])
            self.assertEqual(last(*calls, tear(bar)), [2])

    def test_mended_already(self):
        self.assertEqual(ask(tear(2), mend(2), mend(2), tear(2)), [[1], [0], [-4], [1]])


class Ends(unittest.TestCase):
    def test_first_and_last_of_each_kind(self):
        told = {
            (2, 3): {0: (0, 1), 2: (4, 5), 3: (0, 2), 6: (3, 5)},
            (3, 2): {0: (0, 1), 3: (4, 5), 4: (0, 3), 6: (2, 5)},
            (2, 4): {0: (0, 1), 3: (6, 7), 4: (0, 2), 9: (5, 7)},
            (4, 2): {0: (0, 1), 5: (6, 7), 6: (0, 4), 9: (3, 7)},
            (3, 4): {0: (0, 1), 7: (10, 11), 8: (0, 3), 16: (8, 11)},
            (4, 3): {0: (0, 1), 8: (10, 11), 9: (0, 4), 16: (7, 11)},
        }
        for (wide, high), bars in told.items():
            for bar, (low, other) in bars.items():
                with self.subTest(wide=wide, high=high, bar=bar):
                    self.assertEqual(answers([0, wide, high, 3, bar])[2:], [3, 0, low, other])

    def test_a_row_goes_on_in_the_next_one(self):
        told = ask(begins(4, 3), ends(2), ends(3), ends(12), ends(13))
        self.assertEqual(told[1:], [[0, 2, 3], [0, 4, 5], [0, 3, 7], [0, 4, 8]])

    def test_each_bar(self):
        for wide, high in SIZES:
            bars = bars_of(wide, high)
            told = ask(begins(wide, high), *[ends(bar) for bar in range(len(bars))])
            self.assertEqual(told[0], [len(bars)])
            self.assertEqual(told[1:], [[0, low, other] for low, other in bars])

    def test_torn_or_sound_is_one(self):
        self.assertEqual(ask(tear(3), ends(3), mend(3), ends(3)), [[1], [0, 1, 3], [0], [0, 1, 3]])

    def test_no_such_bar(self):
        for wide, high in SIZES:
            count = len(bars_of(wide, high))
            for bar in (count, count + 1, LARGEST):
                with self.subTest(wide=wide, high=high, bar=bar):
                    self.assertEqual(last(begins(wide, high), ends(bar)), [-2])

    def test_it_changes_nothing(self):
        calls = [begins(3, 2), tear(1), ends(1), ends(6), ends(7)]
        self.assertEqual(torn_now(7, *calls), [1])


if __name__ == "__main__":
    unittest.main()
