"""[3.3] and [3.5]: shares by an order, and shares raised up to bounds."""

import unittest

from groupcost.errors import NotUnder
from groupcost.makers import bounded
from groupcost.orders import by_order, raised
from groupcost.shares import room_of
from samples import (
    HUGE, any_table, as_costs, count_of, falling_tables, gives, many_tables, orders_of, rows_around, some_row,
    told_base, told_break, told_under,
)

THREE = [0, 3, 5, 7, 4, 6, 8, 9]


class ByOrderTest(unittest.TestCase):
    def test_ordinary(self):
        self.assertEqual(by_order([0, 7], [0]), [7])
        self.assertEqual(by_order([0, 5, 6, 8], [0, 1]), [5, 3])
        self.assertEqual(by_order([0, 5, 6, 8], [1, 0]), [2, 6])
        self.assertEqual(by_order(THREE, [0, 1, 2]), [3, 4, 2])
        self.assertEqual(by_order(THREE, [1, 2, 0]), [1, 5, 3])
        self.assertEqual(by_order(THREE, [2, 0, 1]), [2, 3, 4])
        self.assertEqual(by_order([0, HUGE, -HUGE, 1], [1, 0]), [1 + HUGE, -HUGE])

    def test_word_by_word(self):
        for table in many_tables()[::2]:
            costs = as_costs(table)
            count = count_of(table)
            for order in orders_of(count)[::1 if count < 5 else 37]:
                told = by_order(table, order)
                for place, hand in enumerate(order):
                    ahead = frozenset(order[:place])
                    self.assertEqual(told[hand], costs[ahead | {hand}] - costs[ahead])
                self.assertEqual(sum(told), table[-1])

    def test_each_order_gives_a_base_just_where_the_table_falls(self):
        tables = [table for table in many_tables() + falling_tables() if len(table) <= 16]
        self.assertTrue(any(told_break(table) for table in tables))
        for table in tables:
            bases = [told_base(table, by_order(table, order)) for order in orders_of(count_of(table))]
            self.assertEqual(all(bases), told_break(table) is None)

    def test_five_and_six_hands(self):
        for table in falling_tables():
            if len(table) > 16:
                for order in orders_of(count_of(table))[::53]:
                    self.assertTrue(told_base(table, by_order(table, order)))


class RaisedTest(unittest.TestCase):
    def test_rooms_stop_a_hand(self):
        self.assertEqual(raised([0, 5, 6, 8], [0, 0], [99, 99]), [5, 3])
        self.assertEqual(raised([0, 5, 6, 8], [0, 0], [99, 99], [1, 0]), [2, 6])
        self.assertEqual(raised(THREE, [0, 0, 0], [99, 99, 99]), [3, 4, 2])

    def test_bounds_stop_a_hand(self):
        self.assertEqual(raised([0, 5, 6, 8], [0, 0], [2, 1]), [2, 1])
        self.assertEqual(raised([0, 5, 6, 8], [0, 0], [2, 99]), [2, 6])
        self.assertEqual(raised([0, 5, 6, 8], [0, 0], [3, 99]), [3, 5])
        self.assertEqual(raised([0, 5, 6, 8], [0, -4], [99, -1]), [5, -1])
        self.assertEqual(raised([0, -5], [-9], [-7]), [-7])

    def test_without_an_order_with_none_and_with_an_order(self):
        for table in falling_tables():
            count = count_of(table)
            start, bounds = [-60] * count, some_row(count, 4, -3, 12)
            plain = raised(table, start, bounds)
            self.assertEqual(raised(table, start, bounds, None), plain)
            self.assertEqual(raised(table, start, bounds, list(range(count))), plain)
            self.assertEqual(raised(table, start, bounds, order=list(range(count))), plain)

    def test_shares_that_can_not_be_raised_stay(self):
        self.assertEqual(raised([0, 5, 6, 8], [5, 3], [99, 99]), [5, 3])
        self.assertEqual(raised([0, 5, 6, 8], [1, 1], [1, 1]), [1, 1])

    def test_long_numbers(self):
        self.assertEqual(raised([0, HUGE, HUGE, HUGE + 1], [-HUGE, -HUGE], [HUGE, HUGE]), [HUGE, 1])
        self.assertEqual(raised([0, HUGE, HUGE, HUGE + 1], [-HUGE, -HUGE], [HUGE - 1, HUGE]), [HUGE - 1, 2])

    def check_raised(self, table, start, bounds, order):
        grown = list(start)
        costs = as_costs(table)
        for hand in order:
            room = min(cost - gives(grown, hands) for hands, cost in costs.items() if hand in hands)
            grown[hand] += min(room, bounds[hand] - grown[hand])
        told = raised(table, start, bounds, order)
        self.assertEqual(told, grown)
        self.assertTrue(told_under(table, told))
        for hand, share in enumerate(told):
            self.assertGreaterEqual(share, start[hand])
            self.assertLessEqual(share, bounds[hand])
            self.assertTrue(share == bounds[hand] or room_of(table, told, hand) == 0)
        return told

    def test_word_by_word(self):
        for place, table in enumerate(many_tables()[::3] + falling_tables()):
            count = count_of(table)
            bounds = some_row(count, place, -4, 9)
            for order in orders_of(count)[::1 if count < 4 else 41]:
                self.check_raised(table, [-80] * count, bounds, order)

    def test_where_the_table_falls_the_sum_is_the_bounded_tables(self):
        for place, table in enumerate(falling_tables()):
            count = count_of(table)
            for bounds in (some_row(count, place, -4, 9), [200] * count, [-30] * count, some_row(count, place, 0, 3)):
                for order in orders_of(count)[::1 if count < 4 else 71]:
                    told = self.check_raised(table, [-80] * count, bounds, order)
                    self.assertEqual(sum(told), bounded(table, bounds)[-1])

    def test_all_shares_that_can_not_be_raised_have_the_same_sum(self):
        table, bounds = [0, 3, 2, 4, 3, 5, 4, 5], [2, 3, 2]
        sums = set()
        for shares in rows_around(3, -3, 3):
            if told_under(table, shares) and all(share <= bound for share, bound in zip(shares, bounds)):
                told = raised(table, shares, bounds)
                sums.add(sum(told))
                if told == shares:
                    self.assertEqual(sum(shares), bounded(table, bounds)[-1])
        self.assertEqual(sums, {bounded(table, bounds)[-1]})

    def check_refused(self, table, shares, bounds):
        for order in (None, list(range(len(shares))), list(range(len(shares)))[::-1]):
            with self.subTest(table=table, shares=shares, bounds=bounds, order=order), self.assertRaises(NotUnder):
                raised(table, shares, bounds, order)

    def test_shares_over_the_table_are_refused(self):
        self.check_refused([0, 5], [6], [9])
        self.check_refused([0, 5, 6, 8], [6, 0], [9, 9])
        self.check_refused([0, 5, 6, 8], [0, 7], [9, 9])
        self.check_refused([0, 5, 6, 8], [4, 5], [9, 9])
        self.check_refused([0, -1, 6, 8], [0, 0], [9, 9])

    def test_a_share_above_its_bound_is_refused(self):
        self.check_refused([0, 5], [3], [2])
        for hand in range(3):
            shares = [-2, -2, -2]
            shares[hand] = -1
            self.check_refused(THREE, shares, [-2, -2, -2])
            self.assertEqual(raised(THREE, shares, shares), shares)

    def test_both_are_refused(self):
        self.check_refused([0, 5], [9], [2])
        self.check_refused(THREE, [9, 9, 9], [0, 0, 0])

    def test_shares_at_the_table_and_at_the_bound_are_not_refused(self):
        self.assertEqual(raised([0, 5], [5], [5]), [5])
        self.assertEqual(raised(THREE, [3, 4, 2], [3, 4, 2]), [3, 4, 2])

    def test_refused_just_where_told(self):
        table = any_table(3, 8, 0, 3)
        for shares in rows_around(3, -1, 2):
            for bounds in ([0, 1, 2], [2, 2, 2], [-1, 3, 0]):
                if told_under(table, shares) and all(share <= bound for share, bound in zip(shares, bounds)):
                    self.check_raised(table, shares, bounds, [0, 1, 2])
                else:
                    self.check_refused(table, shares, bounds)


if __name__ == "__main__":
    unittest.main()
