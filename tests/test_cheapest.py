"""[5.1], [5.2], [5.4] and [5.5]: the cheapest groups, dues and entries."""

import unittest

from groupcost.cheapest import cheapest, cheapest_groups, cost_with, entry_of, least_cost
from groupcost.errors import NotFalling
from samples import (
    HUGE, as_costs, count_of, falling_tables, gives, long_table, many_tables, mask_of, rows_around, some_row,
    told_break, told_under,
)

THREE = [0, 3, 5, 7, 4, 6, 8, 9]
RISING = [0, 1, 3, 5, 2, 4, 6, 9]


def told_costs(table, prices):
    """[5.1] word by word: what it costs in all with each group, by masks."""
    everybody = set(range(len(prices)))
    return {mask_of(hands): cost + gives(prices, everybody - hands) for hands, cost in as_costs(table).items()}


def told_cheapest(table, prices):
    costs = told_costs(table, prices)
    least = min(costs.values())
    return least, sorted(mask for mask, cost in costs.items() if cost == least)


def prices_for(table, seed):
    """Rows of prices of either sign: near the costs, far off, and such that many groups cost alike."""
    count = count_of(table)
    alike = [table[2 ** hand] for hand in range(count)]
    entering = [table[-1] - table[len(table) - 1 - 2 ** hand] for hand in range(count)]
    far = [100 if hand % 2 else -100 for hand in range(count)]
    return [some_row(count, seed), some_row(count, seed, 0, 4), alike, entering, far, [0] * count, [-50] * count]


class CostTest(unittest.TestCase):
    def test_cost_with(self):
        self.assertEqual([cost_with([0, 5], [3], group) for group in (0, 1)], [3, 5])
        self.assertEqual([cost_with([0, 5], [-3], group) for group in (0, 1)], [-3, 5])
        self.assertEqual([cost_with(THREE, [4, 1, -2], group) for group in range(8)], [3, 2, 7, 5, 9, 7, 12, 9])
        self.assertEqual(cost_with([0, HUGE, -HUGE, 1], [HUGE, HUGE], 0b01), 2 * HUGE)

    def test_least_cost_and_cheapest_groups(self):
        self.assertEqual((least_cost([0, 5], [3]), cheapest_groups([0, 5], [3])), (3, [0]))
        self.assertEqual((least_cost([0, 5], [5]), cheapest_groups([0, 5], [5])), (5, [0, 1]))
        self.assertEqual((least_cost([0, 5], [6]), cheapest_groups([0, 5], [6])), (5, [1]))
        self.assertEqual((least_cost(THREE, [4, 1, -2]), cheapest_groups(THREE, [4, 1, -2])), (2, [0b001]))
        self.assertEqual(cheapest_groups([0, 5, 6, 8], [5, 6]), [3])
        self.assertEqual(cheapest_groups([0, 5, 6, 11], [5, 6]), [0, 1, 2, 3])
        self.assertEqual(cheapest_groups(THREE, [0, 0, 0]), [0])

    def test_cheapest_groups_of_a_table_that_does_not_fall_need_not_join(self):
        self.assertEqual(cheapest_groups([0, 1, 1, 3], [2, 2]), [1, 2, 3])
        self.assertEqual(cheapest_groups([0, 1, 1, 4], [2, 2]), [1, 2])

    def test_held_against_all_groups(self):
        for place, table in enumerate(many_tables()):
            for prices in prices_for(table, place):
                costs = told_costs(table, prices)
                self.assertEqual([cost_with(table, prices, group) for group in range(len(table))],
                                 [costs[group] for group in range(len(table))])
                least, groups = told_cheapest(table, prices)
                self.assertEqual(least_cost(table, prices), least)
                self.assertEqual(cheapest_groups(table, prices), groups)


class DuesTest(unittest.TestCase):
    def check_dues(self, table, prices):
        group, cost, dues = cheapest(table, prices)
        least, groups = told_cheapest(table, prices)
        self.assertEqual(cost, least)
        self.assertEqual(sum(dues), least)
        self.assertTrue(told_under(table, dues))
        self.assertTrue(all(due <= price for due, price in zip(dues, prices)))
        costs = as_costs(table)
        for hands in costs:
            if mask_of(hands) in groups:
                self.assertEqual(gives(dues, hands), costs[hands])
                self.assertTrue(all(dues[hand] == prices[hand] for hand in range(len(prices)) if hand not in hands))
                self.assertEqual(group & mask_of(hands), group)
        self.assertIn(group, groups)

    def test_ordinary(self):
        self.assertEqual(cheapest([0, 5], [3]), (0, 3, [3]))
        self.assertEqual(cheapest([0, 5], [5]), (0, 5, [5]))
        self.assertEqual(cheapest([0, 5], [6]), (1, 5, [5]))
        self.assertEqual(cheapest([0, -5], [-6]), (0, -6, [-6]))
        self.assertEqual(cheapest(THREE, [9, 9, 9])[:2], (7, 9))
        self.assertEqual(cheapest(THREE, [0, 0, 0]), (0, 0, [0, 0, 0]))
        self.assertEqual(cheapest(THREE, [4, 1, -2]), (0b001, 2, [3, 1, -2]))

    def test_one_hand_to_six(self):
        for place, table in enumerate(falling_tables()):
            for prices in prices_for(table, place):
                self.check_dues(table, prices)

    def test_six_hands_and_long_numbers_of_either_sign(self):
        for count in (1, 3, 6):
            for seed in range(3):
                table = long_table(count, seed)
                for prices in ([HUGE] * count, [-HUGE] * count, some_row(count, seed, -HUGE, HUGE)):
                    self.check_dues(table, prices)

    def test_no_shares_of_this_kind_come_to_more(self):
        table, prices = [0, 2, 1, 2, 2, 3, 2, 3], [1, 2, 2]
        sums = [
            sum(shares) for shares in rows_around(3, -2, 2)
            if told_under(table, shares) and all(share <= price for share, price in zip(shares, prices))
        ]
        self.assertEqual(max(sums), least_cost(table, prices))
        self.check_dues(table, prices)

    def test_the_same_dues_each_time(self):
        for table in falling_tables():
            prices = some_row(count_of(table), 5)
            self.assertEqual(cheapest(table, prices), cheapest(table, prices))

    def test_a_table_that_does_not_fall_is_refused(self):
        for table in [RISING, [0, 1, 1, 3]] + many_tables():
            if told_break(table) is not None:
                for prices in prices_for(table, 1):
                    with self.assertRaises(NotFalling):
                        cheapest(table, prices)


class GrowthTest(unittest.TestCase):
    def ends(self, table, prices):
        """The least and the greatest cheapest group."""
        groups = cheapest_groups(table, prices)
        self.assertEqual(groups[0], cheapest(table, prices)[0])
        self.assertTrue(all(groups[0] & group == groups[0] and groups[-1] | group == groups[-1] for group in groups))
        return groups[0], groups[-1]

    def test_where_no_price_falls_neither_loses_a_hand(self):
        for place, table in enumerate(falling_tables()):
            count = count_of(table)
            prices = some_row(count, place, -12, -3)
            least, greatest = self.ends(table, prices)
            for step in range(8):
                prices = [price + more for price, more in zip(prices, some_row(count, step, 0, 4))]
                next_least, next_greatest = self.ends(table, prices)
                self.assertEqual(least & next_least, least)
                self.assertEqual(greatest & next_greatest, greatest)
                least, greatest = next_least, next_greatest

    def test_from_nobody_to_everybody(self):
        self.assertEqual([self.ends(THREE, [price] * 3) for price in (0, 3, 4)], [(0, 0), (0, 7), (7, 7)])
        table = [0, 5, 6, 11]
        rows = ([4, 4], [5, 4], [5, 6], [6, 6], [6, 7])
        self.assertEqual([self.ends(table, prices) for prices in rows], [(0, 0), (0, 1), (0, 3), (1, 3), (3, 3)])


class EntryTest(unittest.TestCase):
    def test_ordinary(self):
        self.assertEqual(entry_of([0, 5], [3], 0), 5)
        self.assertEqual(entry_of([0, -5], [3], 0), -5)
        # Hand 1 would rather work with hand 0, whose price is far above what it costs.
        self.assertEqual(entry_of([0, 5, 6, 8], [50, 0], 1), 3)
        self.assertEqual(entry_of([0, 5, 6, 8], [1, 0], 1), 6)
        self.assertEqual(entry_of([0, 5, 6, 8], [3, 0], 1), 5)
        self.assertEqual(entry_of([0, HUGE, -HUGE, 1], [HUGE, 5], 1), -HUGE)

    def check_entry(self, table, prices, hand):
        costs = told_costs(table, [0 if other == hand else price for other, price in enumerate(prices)])
        joined = min(cost for mask, cost in costs.items() if mask & 2 ** hand)
        without = min(cost for mask, cost in costs.items() if not mask & 2 ** hand)
        entry = entry_of(table, prices, hand)
        self.assertEqual(entry, joined - without)
        for price in (entry - 1, entry, entry + 1, entry - 40, entry + 40):
            changed = prices[:hand] + [price] + prices[hand + 1:]
            self.assertEqual(entry_of(table, changed, hand), entry)
            having = {bool(group & 2 ** hand) for group in told_cheapest(table, changed)[1]}
            expected = {True} if price > entry else {False} if price < entry else {True, False}
            self.assertEqual(having, expected)

    def test_above_at_and_below_the_price(self):
        for place, table in enumerate(many_tables()[::4] + falling_tables()[::5]):
            for prices in prices_for(table, place)[:4]:
                for hand in range(len(prices)):
                    self.check_entry(table, prices, hand)

    def test_six_hands_and_long_numbers(self):
        table = long_table(6, 7)
        prices = some_row(6, 2, -HUGE, HUGE)
        for hand in range(6):
            self.check_entry(table, prices, hand)


if __name__ == "__main__":
    unittest.main()
