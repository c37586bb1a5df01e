"""Point 2 of the promises: odd and check."""

import unittest

from netmends.nets import answers
from tests.lines import (
    LARGEST, SIZES, ask, bars_of, begins, best, check, last, mend, odd, tear, torn_net, torn_now,
)

# A net 3 wide and 3 high:
# 0 - 1 - 2       * 0 * 1 *
# |   |   |       6   7   8
# 3 - 4 - 5       * 2 * 3 *
# |   |   |       9  10  11
# 6 - 7 - 8       * 4 * 5 *


class Odd(unittest.TestCase):
    def test_nothing_torn(self):
        self.assertEqual(answers([4]), [1, 0])
        for wide, high in SIZES:
            self.assertEqual(last(begins(wide, high), odd()), [0])

    def test_one_bar(self):
        for wide, high in SIZES:
            for bar, knots in enumerate(bars_of(wide, high)):
                self.assertEqual(last(*torn_net(wide, high, [bar]), odd()), [2, *knots])
        self.assertEqual(answers([0, 4, 4, 1, 23, 4])[-4:], [3, 2, 11, 15])

    def test_bars_that_meet_at_a_knot(self):
        self.assertEqual(last(*torn_net(3, 3, [0, 1]), odd()), [2, 0, 2])
        self.assertEqual(last(*torn_net(3, 3, [0, 1, 7]), odd()), [4, 0, 1, 2, 4])
        self.assertEqual(last(*torn_net(3, 3, [2, 3, 7, 10]), odd()), [4, 1, 3, 5, 7])

    def test_a_ring(self):
        self.assertEqual(last(*torn_net(2, 2, [0, 1, 2, 3]), odd()), [0])
        self.assertEqual(last(*torn_net(3, 3, [0, 1, 8, 11, 5, 4, 9, 6]), odd()), [0])

    def test_two_rings_that_meet_at_a_knot(self):
        self.assertEqual(last(*torn_net(3, 3, [0, 2, 6, 7, 3, 5, 10, 11]), odd()), [0])

    def test_8_bars_that_do_not_meet(self):
        self.assertEqual(last(*torn_net(4, 4, [0, 2, 3, 5, 6, 8, 9, 11]), odd()), [16, *range(16)])

    def test_rising_however_the_bars_were_torn(self):
        self.assertEqual(last(*torn_net(3, 3, [5, 9, 1]), odd()), [6, 1, 2, 3, 6, 7, 8])
        self.assertEqual(last(*torn_net(3, 3, [1, 5, 9]), odd()), [6, 1, 2, 3, 6, 7, 8])

    def test_behind_a_mend(self):
        told = ask(*torn_net(3, 3, [0, 1]), odd(), mend(0), odd(), mend(1), odd())
        self.assertEqual(told[-5:], [[2, 0, 2], [1], [2, 1, 2], [0], [0]])

    def test_behind_a_begins(self):
        told = ask(tear(0), odd(), begins(3, 2), odd(), tear(4), odd(), begins(5, 2), odd())
        self.assertEqual(told, [[1], [2, 0, 1], [7], [0], [1], [2, 0, 3], [-1], [2, 0, 3]])

    def test_it_changes_nothing(self):
        self.assertEqual(torn_now(12, *torn_net(3, 3, [3, 7]), odd(), odd()), [3, 7])


class CheckNothingTorn(unittest.TestCase):
    def test_the_empty_row(self):
        self.assertEqual(answers([5, 0]), [1, 1])
        for wide, high in SIZES:
            self.assertEqual(last(begins(wide, high), check()), [1])

    def test_one_knot_alone(self):
        for wide, high in SIZES:
            for knot in range(wide * high):
                self.assertEqual(last(begins(wide, high), check(knot)), [1])

    def test_two_knots(self):
        for knot in range(4):
            for other in range(4):
                self.assertEqual(answers([5, 2, knot, other]), [1, 0])

    def test_again_behind_a_mend_and_a_begins(self):
        told = ask(tear(0), check(), check(0), mend(0), check(), check(0), tear(0), begins(2, 2), check())
        self.assertEqual(told, [[1], [0], [0], [0], [1], [1], [1], [4], [1]])


class CheckTorn(unittest.TestCase):
    # 3 to 6, 7, 4, 5: each of its knots but the ends at two torn bars.
    way = (3, 6, 7, 4, 5)
    net = torn_net(3, 3, [4, 9, 3, 10])

    def told(self, *knots):
        return last(*self.net, check(*knots))

    def test_one_bar(self):
        for wide, high in SIZES:
            for bar, (low, other) in enumerate(bars_of(wide, high)):
                net = torn_net(wide, high, [bar])
                self.assertEqual(ask(*net, check(low, other), check(other, low))[2:], [[1], [1]])

    def test_from_either_end(self):
        self.assertEqual(self.told(*self.way), [1])
        self.assertEqual(self.told(*reversed(self.way)), [1])

    def test_one_bar_too_few(self):
        self.assertEqual(self.told(*self.way[1:]), [0])
        self.assertEqual(self.told(*self.way[:-1]), [0])
        self.assertEqual(self.told(3, 6, 7, 4), [0])

    def test_a_bar_gone_over_twice(self):
        self.assertEqual(self.told(*self.way, 4), [0])
        self.assertEqual(self.told(6, *self.way), [0])
        self.assertEqual(self.told(3, 6, 7, 6, 7, 4, 5), [0])
        # As many steps as bars, all over torn ones, one twice.
        self.assertEqual(self.told(3, 6, 7, 4, 7), [0])
        self.assertEqual(self.told(7, 6, 3, 6, 7), [0])

    def test_a_step_over_a_sound_bar(self):
        self.assertEqual(self.told(0, *self.way), [0])
        self.assertEqual(self.told(*self.way, 8), [0])
        self.assertEqual(self.told(3, 6, 7, 8, 5), [0])
        self.assertEqual(self.told(6, 3, 4, 7), [0])

    def test_a_step_between_knots_that_no_bar_joins(self):
        self.assertEqual(self.told(3, 7, 4, 5), [0])
        self.assertEqual(self.told(3, 6, 7, 5, 4), [0])
        self.assertEqual(self.told(*self.way, 6), [0])
        self.assertEqual(self.told(8, *self.way), [0])

    def test_the_last_of_a_row_and_the_first_of_the_next(self):
        # 5 and 6 follow one another as numbers only.
        self.assertEqual(last(*torn_net(3, 3, [3, 4]), check(4, 5, 6, 7)), [0])

    def test_a_knot_that_follows_itself(self):
        for place in range(len(self.way)):
            knots = [*self.way[:place + 1], *self.way[place:]]
            self.assertEqual(self.told(*knots), [0])
        self.assertEqual(self.told(3, 3), [0])

    def test_the_right_knots_in_a_wrong_order(self):
        self.assertEqual(self.told(3, 6, 4, 7, 5), [0])
        self.assertEqual(self.told(5, 6, 7, 4, 3), [0])

    def test_the_empty_row(self):
        self.assertEqual(self.told(), [0])

    def test_one_knot_alone(self):
        for knot in range(9):
            self.assertEqual(self.told(knot), [0])

    def test_a_ring_from_each_knot(self):
        ring = [0, 1, 3, 2]
        net = torn_net(2, 2, [3, 1, 0, 2])
        for place in range(4):
            turned = ring[place:] + ring[:place]
            self.assertEqual(last(*net, check(*turned, turned[0])), [1])
            self.assertEqual(last(*net, check(turned[0], *reversed(turned))), [1])
            self.assertEqual(last(*net, check(*turned)), [0])

    def test_over_a_knot_twice(self):
        net = torn_net(3, 3, [0, 2, 6, 7, 3, 5, 10, 11])
        self.assertEqual(last(*net, check(0, 1, 4, 5, 8, 7, 4, 3, 0)), [1])
        self.assertEqual(last(*net, check(0, 1, 4, 7, 8, 5, 4, 3, 0)), [1])
        self.assertEqual(last(*net, check(0, 1, 4, 3, 0)), [0])

    def test_bars_apart(self):
        self.assertEqual(last(*torn_net(3, 3, [0, 5]), check(0, 1, 7, 8)), [0])
        self.assertEqual(last(*torn_net(3, 3, [0, 5]), check(0, 1)), [0])

    def test_30_knots(self):
        ring = [0, 1, 3, 2] * 8
        self.assertEqual(last(*torn_net(2, 2, [0, 1, 2, 3]), check(*ring[:30])), [0])
        self.assertEqual(last(*torn_net(2, 2, [0]), check(*[0, 1] * 15)), [0])
        self.assertEqual(last(check(*[0] * 30)), [0])
        self.assertEqual(last(check(*[0] * 29, 4)), [-1])
        self.assertEqual(answers([5, 30, *[3, 1] * 15] * 60), [1, 0] * 60)

    def test_the_next_call_stands_behind_the_row(self):
        told = ask(tear(0), check(), odd(), check(0), odd(), check(*[0, 1] * 15), best(), check(0, 1), tear(1))
        self.assertEqual(told, [[1], [0], [2, 0, 1], [0], [2, 0, 1], [0], [0, 1, 0, 1], [1], [2]])
        # The row's numbers are no calls, though they look like some.
        self.assertEqual(answers([0, 3, 3, 5, 6, 0, 1, 2, 4, 5, 6, 1, 0]), [1, 12, 1, 0, 1, 1])

    def test_behind_a_mend(self):
        told = ask(*self.net, check(*self.way), mend(3), check(*self.way), check(*self.way[:-1]))
        self.assertEqual(told[-4:], [[1], [3], [0], [1]])


class CheckRefused(unittest.TestCase):
    def test_no_such_knot(self):
        for wide, high in SIZES:
            count = wide * high
            for knot in (count, count + 1, LARGEST):
                for knots in ((knot,), (knot, 0, 1), (0, knot, 1), (0, 1, knot), (knot, knot)):
                    with self.subTest(wide=wide, high=high, knots=knots):
                        self.assertEqual(last(begins(wide, high), check(*knots)), [-1])
                        self.assertEqual(last(begins(wide, high), tear(0), check(*knots)), [-1])

    def test_the_last_knot_is_one(self):
        for wide, high in SIZES:
            self.assertEqual(last(begins(wide, high), check(wide * high - 1)), [1])

    def test_behind_a_way_and_ahead_of_it(self):
        for knot in (9, LARGEST):
            self.assertEqual(last(*torn_net(3, 3, [0, 1]), check(0, 1, 2, knot)), [-1])
            self.assertEqual(last(*torn_net(3, 3, [0, 1]), check(knot, 0, 1, 2)), [-1])

    def test_where_the_row_is_no_way_anyway(self):
        for knot in (9, LARGEST):
            for knots in ((0, 0, knot), (0, 8, knot), (3, 4, knot), (knot, 5, 5), (0, 1, 0, knot, 0)):
                self.assertEqual(last(*torn_net(3, 3, [0, 1]), check(*knots)), [-1])

    def test_in_30_knots(self):
        for knot in (9, LARGEST):
            for place in (0, 15, 29):
                knots = [4] * 30
                knots[place] = knot
                self.assertEqual(last(*torn_net(3, 3, [0, 1]), check(*knots)), [-1])

    def test_knots_of_a_larger_net_before_are_none(self):
        self.assertEqual(ask(begins(4, 4), check(15), begins(2, 2), check(15), check(3)), [[24], [1], [4], [-1], [1]])

    def test_all_is_as_it_was(self):
        for knots in ((12,), (LARGEST, 0), (7, 8, 11, 12)):
            calls = [*torn_net(3, 4, [5, 16]), check(*knots)]
            self.assertEqual(last(*calls), [-1])
            self.assertEqual(torn_now(17, *calls), [5, 16])
            told = ask(*calls, check(7, 8, 11), odd(), check(*knots), tear(17), tear(0))
            self.assertEqual(told[-5:], [[1], [2, 7, 11], [-1], [-2], [3]])


if __name__ == "__main__":
    unittest.main()
