"""[8.1] and [8.2]: what a mix of orders gives, and a mix for each base."""

import itertools
import math
import unittest

from groupcost.errors import NotBase, NotFalling
from groupcost.mixes import is_mix, mix_row, mix_size, mixed
from groupcost.orders import by_order
from groupcost.tables import scaled
from samples import (
    HUGE, any_table, bases_of, bent_table, count_of, falling_tables, long_table, many_tables, orders_of, rows_around,
    told_base, told_break,
)

TWO = [0, 5, 6, 8]
THREE = [0, 3, 5, 7, 4, 6, 8, 9]


def told_row(table, mix):
    """[8.1] word by word."""
    row = [0] * count_of(table)
    for order, many in mix:
        for _ in range(many):
            row = [one + other for one, other in zip(row, by_order(table, order))]
    return row


class MixRowTest(unittest.TestCase):
    def test_ordinary(self):
        self.assertEqual(mix_row(TWO, [([0, 1], 1)]), [5, 3])
        self.assertEqual(mix_row(TWO, [([0, 1], 3)]), [15, 9])
        self.assertEqual(mix_row(TWO, [([0, 1], 2), ([1, 0], 1)]), [12, 12])
        self.assertEqual(mix_row([0, -7], [([0], 4)]), [-28])

    def test_without_pairs(self):
        for count in range(1, 7):
            self.assertEqual(mix_row(bent_table(count, 1), []), [0] * count)
        self.assertEqual(mix_size([]), 0)

    def test_an_order_told_twice(self):
        self.assertEqual(mix_row(TWO, [([0, 1], 2), ([0, 1], 3)]), [25, 15])
        self.assertEqual(mix_size([([0, 1], 2), ([0, 1], 3)]), 5)

    def test_of_any_table(self):
        for seed, table in enumerate(many_tables()):
            orders = orders_of(count_of(table))
            mix = [(orders[(seed * 7 + place * 11) % len(orders)], place % 4 + 1) for place in range(seed % 6)]
            self.assertEqual(mix_row(table, mix), told_row(table, mix))
            self.assertEqual(mix_size(mix), sum(many for _, many in mix))
            self.assertEqual(sum(mix_row(table, mix)), mix_size(mix) * table[-1])

    def test_long_numbers(self):
        self.assertEqual(mix_row([0, HUGE, 0, 1], [([0, 1], HUGE)]), [HUGE * HUGE, HUGE * (1 - HUGE)])
        self.assertEqual(mix_size([([0], HUGE), ([0], 1)]), HUGE + 1)


class IsMixTest(unittest.TestCase):
    def test_ordinary(self):
        self.assertIs(is_mix(TWO, [4, 4], [([0, 1], 2), ([1, 0], 1)]), True)
        self.assertIs(is_mix(TWO, [4, 4], [([0, 1], 4), ([1, 0], 2)]), True)
        self.assertIs(is_mix(TWO, [4, 4], [([0, 1], 1), ([1, 0], 1), ([0, 1], 1)]), True)
        self.assertIs(is_mix(TWO, [5, 3], [([0, 1], 7)]), True)

    def test_other_shares_and_other_manys(self):
        self.assertIs(is_mix(TWO, [5, 3], [([0, 1], 2), ([1, 0], 1)]), False)
        self.assertIs(is_mix(TWO, [4, 5], [([0, 1], 2), ([1, 0], 1)]), False)
        self.assertIs(is_mix(TWO, [4, 4], [([0, 1], 1), ([1, 0], 1)]), False)
        self.assertIs(is_mix(TWO, [4, 4], [([0, 1], 3), ([1, 0], 1)]), False)
        self.assertIs(is_mix(TWO, [12, 12], [([0, 1], 2), ([1, 0], 1)]), False)
        self.assertIs(is_mix(TWO, [4], [([0, 1], 2), ([1, 0], 1)]), False)
        self.assertIs(is_mix(TWO, [4, 4, 0], [([0, 1], 2), ([1, 0], 1)]), False)

    def test_an_empty_mix(self):
        self.assertIs(is_mix(TWO, [0, 0], []), False)
        self.assertIs(is_mix([0, 0], [0], []), False)
        self.assertIs(is_mix(TWO, [5, 3], []), False)

    def test_a_many_below_one(self):
        self.assertIs(is_mix(TWO, [5, 3], [([0, 1], 0)]), False)
        self.assertIs(is_mix(TWO, [5, 3], [([0, 1], -1)]), False)
        self.assertIs(is_mix(TWO, [5, 3], [([0, 1], 1), ([1, 0], 0)]), False)
        # The sums are right: two times the one order, less once the other one.
        self.assertEqual(mix_row(TWO, [([0, 1], 2), ([1, 0], -1)]), [8, 0])
        self.assertIs(is_mix(TWO, [8, 0], [([0, 1], 2), ([1, 0], -1)]), False)
        self.assertIs(is_mix(TWO, [5, 3], [([0, 1], 2), ([0, 1], -1)]), False)

    def test_orders_that_are_none(self):
        self.assertIs(is_mix([0, 5, 6, 5], [5, 0], [([0], 1)]), False)
        self.assertIs(is_mix([0, 0, 6, 6], [0, 6], [([1, 1], 1)]), False)
        self.assertIs(is_mix(TWO, [5, 3], [([0, 1, 1], 1)]), False)
        self.assertIs(is_mix(TWO, [5, 3], [([0, 2], 1)]), False)

    def test_tables_that_do_not_fall(self):
        self.assertIs(is_mix([0, 1, 1, 3], [1, 2], [([0, 1], 1)]), True)
        self.assertIs(is_mix([0, 1, 1, 4], [2, 2], [([0, 1], 1), ([1, 0], 1)]), True)
        self.assertIs(is_mix([0, 1, 1, 3], [2, 2], [([0, 1], 1)]), False)
        for table in many_tables():
            order = orders_of(count_of(table))[-1]
            shares = by_order(table, order)
            self.assertIs(is_mix(table, shares, [(order, 3)]), True)
            shares[0] += 1
            self.assertIs(is_mix(table, shares, [(order, 3)]), False)

    def test_shares_that_have_a_mix_are_a_base_of_a_table_that_falls(self):
        for table in falling_tables():
            if len(table) > 8:
                continue
            orders = orders_of(count_of(table))
            for one, other in itertools.product(orders, orders):
                mix = [(one, 1), (other, 1)]
                row = mix_row(table, mix)
                if all(number % 2 == 0 for number in row):
                    shares = [number // 2 for number in row]
                    self.assertIs(is_mix(table, shares, mix), True)
                    self.assertTrue(told_base(table, shares))


class MixedTest(unittest.TestCase):
    def check_mixed(self, table, shares):
        mix = mixed(table, shares)
        count = count_of(table)
        self.assertLessEqual(len(mix), count)
        self.assertGreaterEqual(len(mix), 1)
        for order, many in mix:
            self.assertEqual(sorted(order), list(range(count)))
            self.assertGreaterEqual(many, 1)
            self.assertIs(type(many), int)
        # The manys are no greater than need be, so that papers stay short.
        self.assertEqual(math.gcd(*[many for _, many in mix]), 1)
        size = mix_size(mix)
        self.assertEqual(mix_row(table, mix), [share * size for share in shares])
        self.assertIs(is_mix(table, shares, mix), True)
        return mix

    def test_one_hand(self):
        self.assertEqual(mixed([0, 7], [7]), [([0], 1)])
        self.assertEqual(mixed([0, 0], [0]), [([0], 1)])
        self.assertEqual(mixed([0, -7], [-7]), [([0], 1)])

    def test_two_hands(self):
        self.assertEqual(self.check_mixed(TWO, [5, 3]), [([0, 1], 1)])
        self.assertEqual(self.check_mixed(TWO, [2, 6]), [([1, 0], 1)])
        self.assertEqual(sorted(self.check_mixed(TWO, [4, 4])), [([0, 1], 2), ([1, 0], 1)])
        self.assertEqual(sorted(self.check_mixed(TWO, [3, 5])), [([0, 1], 1), ([1, 0], 2)])

    def test_flat_tables(self):
        for count in range(1, 7):
            self.check_mixed(scaled(3, [0] * 2 ** count), [0] * count)
            self.check_mixed([bin(group).count("1") for group in range(2 ** count)], [1] * count)

    def test_bases_by_an_order_are_one_pair(self):
        for table in falling_tables():
            count = count_of(table)
            for order in orders_of(count)[::1 if count < 5 else 31]:
                self.assertEqual(len(self.check_mixed(table, by_order(table, order))), 1)

    def test_all_bases_of_small_tables(self):
        sizes = set()
        for table in falling_tables():
            if len(table) <= 8:
                for shares in bases_of(table):
                    sizes.add(len(self.check_mixed(table, shares)))
        self.assertEqual(sizes, {1, 2, 3})

    def test_sums_of_bases(self):
        # The sum of bases by orders is a base of the table taken as many times.
        sizes = set()
        for table in falling_tables():
            orders = orders_of(count_of(table))
            for start in range(0, len(orders), 181):
                for step in (1, 5, 41):
                    chosen = [orders[(start + step * place) % len(orders)] for place in range(7)]
                    row = mix_row(table, [(order, 1) for order in chosen])
                    sizes.add((count_of(table), len(self.check_mixed(scaled(7, table), row))))
        self.assertTrue({(4, 4), (5, 5), (6, 6)} <= sizes, sizes)

    def test_means_of_bases_that_are_whole(self):
        found = 0
        for table in falling_tables():
            orders = orders_of(count_of(table))
            for one, other in itertools.product(orders[::19], orders[3::23]):
                row = mix_row(table, [(one, 1), (other, 1)])
                if all(number % 2 == 0 for number in row):
                    found += 1
                    self.check_mixed(table, [number // 2 for number in row])
        self.assertGreater(found, 20)

    def test_six_hands_and_long_numbers(self):
        for seed in range(3):
            table = long_table(6, seed)
            row = mix_row(table, [(order, place + 1) for place, order in enumerate(orders_of(6)[::50])])
            size = sum(range(1, len(orders_of(6)[::50]) + 1))
            mix = self.check_mixed(scaled(size, table), row)
            # So a mix can always be written and read back.
            self.assertLess(len(str(max(many for _, many in mix))), 2000)
            self.check_mixed(table, by_order(table, orders_of(6)[seed * 100]))

    def test_bases_in_between_of_long_numbers(self):
        for seed in range(3):
            table = scaled(1000, long_table(6, seed))
            row = mix_row(long_table(6, seed), [(order, 1) for order in orders_of(6)[:700:7]])
            self.assertEqual(len(orders_of(6)[:700:7]), 100)
            mix = self.check_mixed(table, [10 * number for number in row])
            self.assertLess(len(str(mix_size(mix))), 2000)

    def test_shares_that_are_no_base_are_refused(self):
        # Over a group with the right sum; under the table with a lesser sum; over all hands alone; over all else.
        for shares in ([6, 2], [1, 7], [4, 3], [0, 0], [5, 4], [99, 99], [-1, 9]):
            with self.subTest(shares), self.assertRaises(NotBase):
                mixed(TWO, shares)
        for shares in ([6], [8], [0], [-7]):
            with self.assertRaises(NotBase):
                mixed([0, 7], shares)

    def test_refused_just_where_no_base(self):
        for table in ([0, 2, 2, 3, 1, 2, 3, 3], [0, 1, 1, 1, 1, 1, 1, 1]):
            for shares in rows_around(3, -1, 3):
                if told_base(table, shares):
                    self.check_mixed(table, shares)
                else:
                    with self.assertRaises(NotBase):
                        mixed(table, shares)

    def test_a_table_that_does_not_fall_is_refused_ahead_of_all_else(self):
        # A base of a table that does not fall, and shares that are no base of it.
        table = [0, 5, 5, 6, 5, 6, 6, 9]
        self.assertTrue(told_base(table, [3, 3, 3]))
        for shares in ([3, 3, 3], [9, 0, 0], [0, 0, 0]):
            with self.assertRaises(NotFalling):
                mixed(table, shares)
        for count in range(2, 7):
            table = any_table(count, 5)
            if told_break(table) is not None:
                for shares in ([0] * count, [99] * count, by_order(table, list(range(count)))):
                    with self.assertRaises(NotFalling):
                        mixed(table, shares)

    def test_the_same_each_time(self):
        for table in falling_tables():
            shares = by_order(table, list(range(count_of(table))))
            self.assertEqual(mixed(table, shares), mixed(table, shares))


if __name__ == "__main__":
    unittest.main()
