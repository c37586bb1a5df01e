"""Point 2 of the promises: best."""

import itertools
import random
import unittest

from netmends.nets import answers
from tests.lines import (
    SIZES, ask, bars_of, begins, best, check, last, mend, odd, plain_best, tear, torn_net, torn_now,
)

# A net 3 wide and 3 high:
# 0 - 1 - 2       * 0 * 1 *
# |   |   |       6   7   8
# 3 - 4 - 5       * 2 * 3 *
# |   |   |       9  10  11
# 6 - 7 - 8       * 4 * 5 *
#
# One 4 wide and 2 high:
# 0 - 1 - 2 - 3   * 0 * 1 * 2 *
# |   |   |   |   6   7   8   9
# 4 - 5 - 6 - 7   * 3 * 4 * 5 *
#
# In one 4 wide and 4 high the bars along the rows are 0 to 11, three a row, those between the rows 12 to 23.


def best_of(wide, high, torn):
    return last(*torn_net(wide, high, torn), best())


class NothingCut(unittest.TestCase):
    def test_nothing_torn(self):
        self.assertEqual(answers([6]), [2, 0, 1])
        for wide, high in SIZES:
            self.assertEqual(best_of(wide, high, []), [0, 1])

    def test_nothing_torn_any_more(self):
        told = ask(tear(1), best(), mend(1), best(), tear(1), begins(3, 4), best())
        self.assertEqual(told, [[1], [0, 1, 2, 3], [0], [0, 1], [1], [17], [0, 1]])

    def test_one_bar(self):
        for wide, high in SIZES:
            for bar, knots in enumerate(bars_of(wide, high)):
                self.assertEqual(best_of(wide, high, [bar]), [0, 1, *knots])

    def test_from_the_lower_end(self):
        self.assertEqual(best_of(3, 3, [9, 4, 10, 3]), [0, 1, 3, 6, 7, 4, 5])

    def test_a_ring(self):
        self.assertEqual(best_of(2, 2, [0, 1, 2, 3]), [0, 1, 0, 1, 3, 2, 0])
        self.assertEqual(best_of(3, 3, [3, 5, 10, 11]), [0, 1, 4, 5, 8, 7, 4])
        self.assertEqual(best_of(3, 3, [0, 1, 4, 5, 6, 8, 9, 11]), [0, 1, 0, 1, 2, 5, 8, 7, 6, 3, 0])

    def test_two_rings_that_meet_at_a_knot(self):
        self.assertEqual(best_of(3, 3, [0, 2, 6, 7, 3, 5, 10, 11]), [0, 1, 0, 1, 4, 5, 8, 7, 4, 3, 0])
        self.assertEqual(best_of(3, 3, [1, 3, 7, 8, 2, 4, 9, 10]), [0, 1, 1, 2, 5, 4, 3, 6, 7, 4, 1])

    def test_it_has_to_begin_at_an_odd_knot(self):
        # 0 is the lowest knot, but 3 and 4 are the ends.
        self.assertEqual(best_of(3, 2, [4, 0, 5]), [0, 1, 3, 0, 1, 4])
        # A ring with one bar more: 4 and 5 are odd.
        self.assertEqual(best_of(3, 2, [0, 5, 2, 4, 3]), [0, 1, 4, 1, 0, 3, 4, 5])

    def test_the_lowest_step_can_be_too_soon(self):
        # From 4 the lowest is 3, but 3 leads on to 6 alone, where the way ends.
        self.assertEqual(best_of(3, 3, [3, 11, 5, 10, 2, 9]), [0, 1, 4, 5, 8, 7, 4, 3, 6])


class SomeCut(unittest.TestCase):
    def test_1(self):
        # 0 - 1 and 2 - 3 can be joined at either side.
        self.assertEqual(best_of(2, 2, [0, 1]), [1, 2, 2, 1, 0, 2, 3])
        self.assertEqual(best_of(2, 2, [3, 2]), [1, 2, 0, 2, 0, 1, 3])

    def test_1_where_no_knot_is_odd(self):
        # Two rings apart.
        self.assertEqual(best_of(4, 2, [0, 3, 6, 7, 2, 5, 8, 9]), [1, 2, 1, 1, 0, 4, 5, 1, 2, 3, 7, 6, 2])

    def test_1_where_the_bars_hang_together(self):
        # Odd are 1, 2, 3 and 4, and of these a sound bar joins 3 and 4 alone.
        self.assertEqual(best_of(3, 2, [0, 1, 4, 5]), [1, 1, 2, 1, 0, 3, 4, 1, 2])

    def test_2(self):
        # Three bars at knot 1: two more lead from one end to another.
        self.assertEqual(best_of(3, 2, [0, 1, 5]), [2, 2, 2, 4, 1, 0, 3, 4, 1, 2])
        # Four bars at knot 4: two of their ends are joined over one of the corners.
        self.assertEqual(best_of(3, 3, [2, 3, 7, 10]), [2, 4, 0, 6, 5, 4, 1, 0, 3, 4, 7])

    def test_3(self):
        # The two sides are joined along the upper or the lower row.
        self.assertEqual(best_of(4, 2, [6, 9]), [3, 2, 0, 1, 2, 4, 0, 1, 2, 3, 7])

    def test_4(self):
        # From 4 to 11 there are four shortest joins.
        self.assertEqual(best_of(4, 4, [12, 23]), [4, 4, 3, 4, 5, 19, 0, 4, 5, 6, 7, 11, 15])

    def test_a_torn_bar_is_not_cut(self):
        # The upper join of the sides is the only one left when one of the lower bars is torn and mended.
        told = ask(*torn_net(4, 2, [6, 9, 4]), best(), mend(4), best())
        self.assertEqual(told[-1], [3, 2, 0, 1, 2, 4, 0, 1, 2, 3, 7])
        self.assertEqual(told[-3], [2, 1, 3, 5, 0, 4, 5, 6, 7, 3])

    def test_the_order_of_tearing_is_one(self):
        bars = [0, 1, 5]
        for order in itertools.permutations(bars):
            self.assertEqual(best_of(3, 2, order), [2, 2, 2, 4, 1, 0, 3, 4, 1, 2])

    def test_width_and_height_are_not_one(self):
        self.assertEqual(best_of(2, 4, [0, 3]), [3, 2, 4, 6, 8, 1, 0, 2, 4, 6, 7])

    def test_it_changes_nothing(self):
        calls = [*torn_net(4, 2, [6, 9]), best()]
        self.assertEqual(torn_now(10, *calls), [6, 9])
        told = ask(*calls, best(), odd(), tear(0), best(), best())
        self.assertEqual(told[3], told[4])
        with_three = [2, 1, 1, 2, 4, 0, 1, 2, 3, 7]
        self.assertEqual(told[5:], [[4, 0, 3, 4, 7], [3], with_three, with_three])


class Refused(unittest.TestCase):
    apart = (0, 2, 3, 5, 6, 8, 9, 11)

    def test_16_odd_knots(self):
        self.assertEqual(best_of(4, 4, self.apart), [-6])

    def test_12_odd_knots(self):
        # Four bars more make eight of them even, and four are left.
        self.assertEqual(best_of(4, 3, [0, 2, 3, 5, 6, 8]), [-6])

    def test_too_far_apart(self):
        # One bar joins the two of the first row, one those of the last, and it takes three from row to row.
        self.assertEqual(best_of(4, 4, [0, 2, 9, 11]), [-6])

    def test_too_few_bars_are_sound(self):
        # With 4 - 6, with 5 - 7 and with both, four knots are odd.
        self.assertEqual(best_of(2, 4, [0, 1, 2, 3, 4, 5, 6, 7]), [-6])

    def test_all_is_as_it_was(self):
        calls = [*torn_net(4, 4, self.apart), best()]
        self.assertEqual(torn_now(24, *calls), list(self.apart))
        told = ask(*calls, best(), odd(), tear(1), check(0, 1), mend(3), tear(1))
        self.assertEqual(told[9:], [[-6], [-6], [16, *range(16)], [-5], [0], [7], [8]])
        told = ask(*torn_net(4, 4, [0, 2, 9, 11]), best(), mend(9), best())
        self.assertEqual(told[-3:], [[-6], [3], [4, 1, 1, 15, 19, 23, 0, 1, 2, 3, 7, 11, 15, 14]])


class AgainstAPlainTry(unittest.TestCase):
    def compare(self, wide, high, torn):
        bars = bars_of(wide, high)
        expected = plain_best(bars, torn)
        with self.subTest(wide=wide, high=high, torn=torn):
            self.assertEqual(best_of(wide, high, torn), expected)
            if expected[0] == 0:
                self.assertEqual(last(*torn_net(wide, high, torn), check(*expected[2:])), [1])
        return expected[0]

    def test_all_torn_bars_of_the_smallest_nets(self):
        for wide, high in ((2, 2), (2, 3), (3, 2), (2, 4), (4, 2)):
            count = len(bars_of(wide, high))
            for size in range(min(count, 8) + 1):
                for torn in itertools.combinations(range(count), size):
                    self.compare(wide, high, torn)

    def test_some_torn_bars_of_larger_nets(self):
        source = random.Random(31)
        seen = set()
        for wide, high, turns in ((3, 3, 300), (3, 4, 40), (4, 3, 40), (4, 4, 12)):
            for turn in range(turns):
                torn = source.sample(range(len(bars_of(wide, high))), source.randint(0, 8))
                seen.add(self.compare(wide, high, torn))
        self.assertEqual(seen, {-6, 0, 1, 2, 3, 4})

    def test_a_walk_over_8_bars(self):
        # Bars that a walk goes over need none cut, which torn bars taken anywhere hardly ever do.
        source = random.Random(32)
        bars = bars_of(4, 4)
        for turn in range(60):
            here = source.randrange(16)
            torn = []
            while len(torn) < 8:
                steps = [bar for bar in range(24) if here in bars[bar] and bar not in torn]
                if not steps:
                    break
                torn.append(source.choice(steps))
                here = sum(bars[torn[-1]]) - here
            self.assertEqual(self.compare(4, 4, sorted(torn)), 0)

    def test_8_torn_bars_4_wide_and_4_high(self):
        source = random.Random(33)
        for turn in range(16):
            self.compare(4, 4, source.sample(range(24), 8))


class ManyInOneList(unittest.TestCase):
    def test_60_calls_with_best_in_most(self):
        source = random.Random(34)
        bars = bars_of(4, 4)
        torn = source.sample(range(24), 8)
        calls = torn_net(4, 4, torn)
        expected = [[24]] + [[count] for count in range(1, 9)]
        while len(calls) < 55:
            calls += [best()] * 4
            expected += [plain_best(bars, torn)] * 4
            gone = torn.pop(0)
            new = source.choice([bar for bar in range(24) if bar not in [gone, *torn]])
            torn.append(new)
            calls += [mend(gone), tear(new)]
            expected += [[7], [8]]
        while len(calls) < 60:
            calls.append(best())
            expected.append(plain_best(bars, torn))
        self.assertEqual(len(calls), 60)
        self.assertEqual(ask(*calls), expected)

    def test_60_of_best(self):
        self.assertEqual(answers([6] * 60), [2, 0, 1] * 60)

    def test_as_many_as_there_are_calls(self):
        told = ask(*torn_net(4, 4, [12, 23]), *[best()] * 57)
        self.assertEqual(told[3:], [[4, 4, 3, 4, 5, 19, 0, 4, 5, 6, 7, 11, 15]] * 57)


if __name__ == "__main__":
    unittest.main()
