"""[6.4] and [6.5]: a row between two tables, and a base of a sum split."""

import itertools
import unittest

from groupcost.between import between, split_base
from groupcost.errors import NotBase, NotFalling, NotRising, Unlike
from groupcost.orders import by_order
from groupcost.tables import added, mirror, row_table
from samples import (
    HUGE, any_table, as_costs, bases_of, bent_table, count_of, falling_table, falling_tables, gives, long_table,
    orders_of, rising_table, rows_around, set_of, some_row, told_base, told_break, told_rises,
)

THREE = [0, 3, 5, 7, 4, 6, 8, 9]
RISING = [0, 1, 3, 5, 2, 4, 6, 9]


def lowered(low, much):
    """A table with much less for each hand of a group: it lies lower, and rises where it rose."""
    return [cost - much * len(set_of(group)) for group, cost in enumerate(low)]


class BetweenTest(unittest.TestCase):
    def check_between(self, low, high):
        """Holds what is told against all groups, and tells whether it is a row."""
        kind, told = between(low, high)
        bars = [group for group in range(len(low)) if low[group] > high[group]]
        if bars:
            self.assertEqual((kind, told), ("bar", bars[0]))
            return False
        self.assertEqual(kind, "row")
        self.assertEqual(len(told), count_of(low))
        for (hands, least), most in zip(as_costs(low).items(), high):
            self.assertLessEqual(least, gives(told, hands))
            self.assertLessEqual(gives(told, hands), most)
        return True

    def test_one_hand(self):
        self.assertEqual(between([0, 5], [0, 5]), ("row", [5]))
        self.assertEqual(between([0, 6], [0, 5]), ("bar", 1))
        self.assertTrue(self.check_between([0, -9], [0, 5]))

    def test_two_hands(self):
        self.assertTrue(self.check_between([0, 1, 2, 5], [0, 4, 4, 6]))
        self.assertEqual(between([0, 3, 2, 5], [0, 3, 4, 7]), ("row", [3, 2]))
        self.assertEqual(between([0, 1, 2, 8], [0, 4, 4, 7]), ("bar", 3))

    def test_a_rows_own_table(self):
        for count in range(1, 7):
            row = some_row(count, 3)
            self.assertEqual(between(row_table(row), row_table(row)), ("row", row))
            lower = [number - 1 for number in row]
            self.assertEqual(between(row_table(row), row_table(lower)), ("bar", 1))

    def test_a_table_above_its_mirror(self):
        for table in falling_tables():
            self.assertTrue(self.check_between(mirror(table), table))

    def test_the_bar_is_the_first_group_by_masks(self):
        high = [0, 9, 9, 18, 9, 18, 18, 27]
        self.assertEqual(between([0, 0, 0, 0, 0, 0, 0, 30], high), ("bar", 0b111))
        self.assertEqual(between([0, 0, 0, 20, 0, 20, 20, 60], high), ("bar", 0b011))
        self.assertEqual(between([0, 0, 0, 0, 0, 20, 20, 60], high), ("bar", 0b101))
        self.assertEqual(between([0, 0, 10, 40, 10, 40, 40, 90], high), ("bar", 0b010))
        self.assertEqual(between([0, 10, 10, 40, 10, 40, 40, 90], high), ("bar", 0b001))

    def test_rows_and_bars_of_one_hand_to_six(self):
        kinds = []
        for count in range(1, 7):
            for seed in range(8):
                high = bent_table(count, seed)
                for much in (0, 2, 4, 8, 20):
                    low = lowered([-cost for cost in bent_table(count, seed + 50)], much)
                    self.assertTrue(told_rises(low))
                    kinds.append(self.check_between(low, high))
        self.assertEqual(set(kinds), {True, False})

    def test_where_the_tables_touch(self):
        # Lowered by just as much as puts no group of the low table above the high one.
        for count in range(1, 7):
            for seed in range(5):
                high, low = bent_table(count, seed), rising_table(count, seed + 9)
                much = 0
                while any(one > other for one, other in zip(lowered(low, much), high)):
                    much += 1
                self.assertTrue(self.check_between(lowered(low, much), high))
                if much:
                    self.assertFalse(self.check_between(lowered(low, much - 1), high))

    def test_six_hands_and_long_numbers(self):
        for seed in range(3):
            high = long_table(6, seed)
            self.assertTrue(self.check_between(mirror(high), high))
            self.assertTrue(self.check_between(lowered([-cost for cost in high], 300 * HUGE), high))
            self.assertFalse(self.check_between(lowered(mirror(high), -1), high))

    def test_a_low_table_that_does_not_rise_is_refused(self):
        for high in ([0, 9, 9, 12], [0, -9, -9, -20]):
            with self.assertRaises(NotRising):
                between([0, 5, 6, 8], high)

    def test_a_high_table_that_does_not_fall_is_refused(self):
        for low in ([0, 1, 1, 3], [0, 90, 90, 200]):
            with self.assertRaises(NotFalling):
                between(low, [0, 5, 5, 12])

    def test_not_rising_goes_ahead_of_not_falling(self):
        with self.assertRaises(NotRising):
            between([0, 5, 6, 8], [0, 1, 1, 3])
        for count in range(2, 7):
            neither = any_table(count, 5)
            if told_break(neither) is not None and not told_rises(neither):
                with self.assertRaises(NotRising):
                    between(neither, neither)

    def test_unlike_goes_ahead_of_all_else(self):
        for low in (RISING, THREE):
            for high in ([0, 5, 6, 8], [0, 1, 2, 4], [0, 5], [0] * 16):
                for pair in ((low, high), (high, low)):
                    with self.assertRaises(Unlike):
                        between(*pair)


class SplitTest(unittest.TestCase):
    def check_split(self, one, other, shares):
        first, second = split_base(one, other, shares)
        self.assertTrue(told_base(one, first))
        self.assertTrue(told_base(other, second))
        self.assertEqual([a + b for a, b in zip(first, second)], shares)
        self.assertEqual((len(first), len(second)), (len(shares), len(shares)))

    def test_ordinary(self):
        self.assertEqual(split_base([0, 5], [0, -2], [3]), ([5], [-2]))
        self.assertEqual(split_base([0, 5, 6, 8], [0, 0, 0, 0], [4, 4]), ([4, 4], [0, 0]))
        self.assertEqual(split_base([0, 0, 0, 0], [0, 5, 6, 8], [4, 4]), ([0, 0], [4, 4]))
        self.assertEqual(split_base([0, 5, 6, 8], [0, 1, 1, 1], [6, 3]), ([5, 3], [1, 0]))
        self.assertEqual(split_base([0, 5, 6, 8], [0, 1, 1, 1], [2, 7]), ([2, 6], [0, 1]))

    def pairs(self):
        for count in range(1, 7):
            for seed in range(3):
                yield bent_table(count, seed), bent_table(count, seed + 30)
                yield falling_table(count, seed + 60), bent_table(count, seed)

    def test_bases_by_orders(self):
        for one, other in self.pairs():
            whole = added(one, other)
            count = count_of(one)
            for order in orders_of(count)[::1 if count < 4 else 61]:
                self.check_split(one, other, by_order(whole, order))

    def test_bases_between_those_of_orders(self):
        # Halfway between two bases of twice the table, which are twice such of the table, lies a base of it.
        for one, other in self.pairs():
            whole = added(one, other)
            orders = orders_of(count_of(one))
            for first, second in itertools.product(orders[::29], orders[5::31] or orders):
                ends = [by_order(whole, first), by_order(whole, second)]
                twice = [2 * cost for cost in one], [2 * cost for cost in other]
                self.check_split(twice[0], twice[1], [a + b for a, b in zip(*ends)])

    def test_all_bases_of_small_sums(self):
        for one, other in self.pairs():
            if len(one) <= 8:
                for shares in bases_of(added(one, other)):
                    self.check_split(one, other, shares)

    def test_six_hands_and_long_numbers(self):
        for seed in range(3):
            one, other = long_table(6, seed), long_table(6, seed + 20)
            for order in orders_of(6)[::240]:
                self.check_split(one, other, by_order(added(one, other), order))

    def test_a_table_that_does_not_fall_is_refused(self):
        broken, falling = [0, 1, 1, 3], [0, 5, 5, 8]
        # The sum falls, and these are a base of it; yet the one table of the two does not fall.
        shares = [6, 5]
        self.assertTrue(told_base(added(broken, falling), shares))
        for one, other in ((broken, falling), (falling, broken), (broken, broken)):
            with self.assertRaises(NotFalling):
                split_base(one, other, shares)

    def test_not_falling_goes_ahead_of_not_base(self):
        broken, falling = [0, 1, 1, 3], [0, 5, 5, 8]
        for one, other in ((broken, falling), (falling, broken), (broken, broken)):
            for shares in ([99, 99], [0, 0]):
                with self.assertRaises(NotFalling):
                    split_base(one, other, shares)

    def test_shares_that_are_no_base_are_refused(self):
        # Over a group with the right sum; under the table with a lesser sum; over all hands alone.
        for shares in ([12, -1], [-1, 12], [5, 5], [0, 0], [6, 6], [99, 99]):
            with self.subTest(shares), self.assertRaises(NotBase):
                split_base([0, 5, 6, 8], [0, 3, 2, 3], shares)
        with self.assertRaises(NotBase):
            split_base([0, 5], [0, 3], [7])

    def test_refused_just_where_no_base(self):
        one, other = [0, 2, 2, 3, 1, 2, 3, 3], [0, 1, 0, 1, 1, 1, 1, 1]
        for shares in rows_around(3, -1, 3):
            if told_base(added(one, other), shares):
                self.check_split(one, other, shares)
            else:
                with self.assertRaises(NotBase):
                    split_base(one, other, shares)

    def test_unlike_goes_ahead_of_all_else(self):
        for one in (THREE, RISING):
            for other in ([0, 5, 6, 8], [0, 1, 2, 4], [0, 5], [0] * 16):
                for pair in ((one, other), (other, one)):
                    for shares in ([0, 0, 0], [3, 4, 2], [99, 99]):
                        with self.assertRaises(Unlike):
                            split_base(pair[0], pair[1], shares)

    def test_the_same_each_time(self):
        for one, other in self.pairs():
            shares = by_order(added(one, other), list(range(count_of(one))))
            self.assertEqual(split_base(one, other, shares), split_base(one, other, shares))


if __name__ == "__main__":
    unittest.main()
